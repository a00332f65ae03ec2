import PyProof.Rows.All
import Wide.All
import OpenK.AllK
import Wide.FinOn
import PyProof.EqAt
import PyProof.EqKinds
import PyProof.TupleCall
import KE.BitLaws
import KE.IntBitsLaws
import KE.KMinKey
import PyProof.ZipIter
import PyProof.TupleIter
import Open.SpecLaws
import KE.OsHead
import KE.OsGo
import PySem.Challenge.RW_networktime_s01_answers
set_option Elab.async false
set_option linter.all false
set_option maxRecDepth 100000
set_option maxHeartbeats 4000000
noncomputable section
local macro_rules|`(⋯)=>`(by lia)
local macro_rules|`(∅)=>`(by decide)
open PySem.W(Frag InitBack InstAt Looks WRecords WalkOS any_some bind_fn callWith_K callWith_K0 cellsFrom_some codeIn codeRec_of emptyDict enter_call eq_bytes findIn findObj_own fnOf get_value handedIn hasDictIn hideAll hideAll_get hideAll_none hideAll_size instObj isFn keepIn ki_setAt ki_setBack ktu_apart layableW_iff length_le_weightAllW lookIn looks_clsIn looks_findIn make_core makesIn makes_of methodCall_KW methodObj method_fn ne_bytes of_hideAll os_pre_some osa_open plainGet plainGet_of plainOver set_plain takerIn typeIn)
def Vd:type_of% @List.getD_eq_getElem?_getD:=@List.getD_eq_getElem?_getD
def Ve:type_of% @List.getElem?_eq_getElem:=@List.getElem?_eq_getElem
def Vf:type_of% @List.mem_of_getElem?:=@List.mem_of_getElem?
def Vg:type_of% @if_neg:=@if_neg
def Vh:type_of% @if_pos:=@if_pos
def Vi:type_of% @PySem.wpAny_bind:=@PySem.wpAny_bind
def Vj:type_of% @List.getElem?_eq_some_iff:=@List.getElem?_eq_some_iff
def Vk:type_of% @PySem.Heap.get?_push_of_some:=@PySem.Heap.get?_push_of_some
def Vl:type_of% @Nat.lt_of_le_of_lt:=@Nat.lt_of_le_of_lt
def Vm:type_of% @Nat.le_refl:=@Nat.le_refl
def Vn:type_of% @List.length_map:=@List.length_map
def Vo:type_of% @List.mem_cons:=@List.mem_cons
def Vp:type_of% @decide_eq_true_eq:=@decide_eq_true_eq
def Vq:type_of% @List.getElem?_map:=@List.getElem?_map
def Vr:type_of% @Option.some.inj:=@Option.some.inj
def Vs:type_of% @List.getElem_mem:=@List.getElem_mem
def Vt:type_of% @Bool.and_eq_true:=@Bool.and_eq_true
def Vu:type_of% @List.length_cons:=@List.length_cons
def Vv:type_of% @List.map_cons:=@List.map_cons
def Vw:type_of% @List.length_append:=@List.length_append
def Vx:type_of% @decide_eq_true:=@decide_eq_true
def Vy:type_of% @Nat.le_trans:=@Nat.le_trans
def Vz:type_of% @List.mem_map:=@List.mem_map
def VA:type_of% @List.size_toArray:=@List.size_toArray
def VB:type_of% @List.mem_range:=@List.mem_range
def VC:type_of% @Option.some.injEq:=@Option.some.injEq
def VD:type_of% @PySem.Heap.lt_size:=@PySem.Heap.lt_size
def VE:type_of% @Int.toNat_natCast:=@Int.toNat_natCast
def VF:type_of% @decide_eq_false:=@decide_eq_false
def VG:type_of% @Bool.false_ne_true:=@Bool.false_ne_true
def VH:type_of% @List.mem_singleton:=@List.mem_singleton
def VI:type_of% @List.mem_cons_of_mem:=@List.mem_cons_of_mem
def VJ:type_of% @PySem.PassesOwn.never:=@PySem.PassesOwn.never
def VL:type_of% @PySem.wpAny_pure:=@PySem.wpAny_pure
def VM:type_of% @PySem.Heap.get?_push_size:=@PySem.Heap.get?_push_size
def VN:type_of% @List.map_append:=@List.map_append
def VO:type_of% @List.all_eq_true:=@List.all_eq_true
def VP:type_of% @PySem.Paired.length:=@PySem.Paired.length
def VQ:type_of% @List.mem_append:=@List.mem_append
def VR:type_of% @Nat.lt_of_lt_of_le:=@Nat.lt_of_lt_of_le
def VS:type_of% @List.map_map:=@List.map_map
def VT:type_of% @Int.mul_le_mul_of_nonneg_right:=@Int.mul_le_mul_of_nonneg_right
def VU:type_of% @List.take_add_one:=@List.take_add_one
def VV:type_of% @List.take_of_length_le:=@List.take_of_length_le
def VW:type_of% @Nat.pow_le_pow_right:=@Nat.pow_le_pow_right
def VX:type_of% @Int.mul_le_mul_of_nonneg_left:=@Int.mul_le_mul_of_nonneg_left
def VY:type_of% @List.mem_cons_self:=@List.mem_cons_self
def VZ:type_of% @List.flatMap_cons:=@List.flatMap_cons
def V0:type_of% @List.length_take:=@List.length_take
def V1:type_of% @Rat.intCast_mul:=@Rat.intCast_mul
def V2:type_of% @List.range_succ:=@List.range_succ
def V3:type_of% @List.foldl_cons:=@List.foldl_cons
def V4:type_of% @PySem.mem_of_lookup:=@PySem.mem_of_lookup
def V5:type_of% @List.map_congr_left:=@List.map_congr_left
def V6:type_of% @List.getElem_of_mem:=@List.getElem_of_mem
def V7:type_of% @List.mem_or_eq_of_mem_set:=@List.mem_or_eq_of_mem_set
def V8:type_of% @List.not_mem_nil:=@List.not_mem_nil
def V9:type_of% @List.length_drop:=@List.length_drop
def V_:type_of% @List.eq_of_mem_replicate:=@List.eq_of_mem_replicate
def V':type_of% @List.mem_flatMap:=@List.mem_flatMap
def Wa:type_of% @Int.natCast_mul:=@Int.natCast_mul
def Wb:type_of% @PySem.Heap.size_push:=@PySem.Heap.size_push
def Wc:type_of% @Nat.ne_of_lt:=@Nat.ne_of_lt
def Wd:type_of% @List.getElem?_append_right:=@List.getElem?_append_right
def We:type_of% @Nat.zero_le:=@Nat.zero_le
def Wf:type_of% @List.getElem?_replicate:=@List.getElem?_replicate
def Wg:type_of% @List.getD_cons_succ:=@List.getD_cons_succ
def Wi:type_of% @Option.map_some:=@Option.map_some
def Wj:type_of% @List.take_length:=@List.take_length
def Wk:type_of% @congrArg:=@congrArg
def Wl:type_of% @List.foldl_append:=@List.foldl_append
def Wm:type_of% @List.getElem?_range:=@List.getElem?_range
def Wn:type_of% @List.getElem?_eq_none:=@List.getElem?_eq_none
def Wo:type_of% @List.append_nil:=@List.append_nil
def Wp:type_of% @Int.le_trans:=@Int.le_trans
def Wq:type_of% @List.getElem?_set_self:=@List.getElem?_set_self
def Wr:type_of% @decide_eq_decide:=@decide_eq_decide
def Ws:type_of% @List.length_replicate:=@List.length_replicate
def Wt:type_of% @Nat.mul_le_mul:=@Nat.mul_le_mul
def Wu:type_of% @decide_eq_false_iff_not:=@decide_eq_false_iff_not
def Wv:type_of% @PyProof.Rows.callWith_type1:=@PyProof.Rows.callWith_type1
def Ww:type_of% @List.getElem?_set_ne:=@List.getElem?_set_ne
def Wx:type_of% @List.range_succ_eq_map:=@List.range_succ_eq_map
def Wy:type_of% @of_decide_eq_true:=@of_decide_eq_true
def Wz:type_of% @List.length_range:=@List.length_range
def WA:type_of% @List.getD_cons_zero:=@List.getD_cons_zero
def WB:type_of% @PySem.wpAny_seqItems:=@PySem.wpAny_seqItems
def WC:type_of% @List.mem_append_right:=@List.mem_append_right
def WD:type_of% @List.length_set:=@List.length_set
def WE:type_of% @Int.mul_assoc:=@Int.mul_assoc
def WF:type_of% @if_true:=@if_true
def WG:type_of% @PySem.F.plain_max_loop:=@PySem.F.plain_max_loop
def WH:type_of% @List.map_nil:=@List.map_nil
def WI:type_of% @List.getElem?_append_left:=@List.getElem?_append_left
def WJ:type_of% @Int.natAbs_mul:=@Int.natAbs_mul
def WK:type_of% @Int.mul_pos:=@Int.mul_pos
def WL:type_of% @List.of_mem_zip:=@List.of_mem_zip
def WM:type_of% @Int.mul_ediv_cancel_left:=@Int.mul_ediv_cancel_left
def WN:type_of% @PySem.Heap.get?_update_other:=@PySem.Heap.get?_update_other
def WP:type_of% @Nat.le_of_lt:=@Nat.le_of_lt
def WQ:type_of% @List.flatMap_append:=@List.flatMap_append
def WR:type_of% @List.lookup_cons:=@List.lookup_cons
def WS:type_of% @List.set_append_right:=@List.set_append_right
def WT:type_of% @List.nodup_cons:=@List.nodup_cons
def WU:type_of% @Bool.eq_iff_iff:=@Bool.eq_iff_iff
def WV:type_of% @Nat.lt_irrefl:=@Nat.lt_irrefl
def WW:type_of% @List.any_cons:=@List.any_cons
def WX:type_of% @List.all_cons:=@List.all_cons
def WY:type_of% @Bool.not_eq_true':=@Bool.not_eq_true'
def WZ:type_of% @PySem.wpAny_field:=@PySem.wpAny_field
def W0:type_of% @Nat.mul_le_mul_right:=@Nat.mul_le_mul_right
def W1:type_of% @Bool.or_eq_false_iff:=@Bool.or_eq_false_iff
def W2:type_of% @List.drop_eq_getElem_cons:=@List.drop_eq_getElem_cons
def W3:type_of% @PySem.wpAny_mono:=@PySem.wpAny_mono
def W4:type_of% @or_false:=@or_false
def W5:type_of% @if_false:=@if_false
def W6:type_of% @List.ext_getElem:=@List.ext_getElem
def W7:type_of% @Bool.not_eq_true:=@Bool.not_eq_true
def W8:type_of% @beq_eq_false_iff_ne:=@beq_eq_false_iff_ne
def W9:type_of% @List.length_zipWith:=@List.length_zipWith
def W_:type_of% @Int.pos_of_mul_pos_right:=@Int.pos_of_mul_pos_right
def Xa:type_of% @PySem.F.plainAttrs_list:=@PySem.F.plainAttrs_list
def Xb:type_of% @Int.mul_eq_zero:=@Int.mul_eq_zero
def Xc:type_of% @Nat.pow_add:=@Nat.pow_add
def Xd:type_of% @List.append_assoc:=@List.append_assoc
def Xe:type_of% @List.drop_zero:=@List.drop_zero
def Xf:type_of% @Nat.pow_succ:=@Nat.pow_succ
def Xg:type_of% @List.take_append_drop:=@List.take_append_drop
def Xh:type_of% @Nat.le_add_right:=@Nat.le_add_right
def Xi:type_of% @List.eq_nil_of_length_eq_zero:=@List.eq_nil_of_length_eq_zero
def Xj:type_of% @List.mem_of_mem_take:=@List.mem_of_mem_take
def Xk:type_of% @List.getElem?_mapIdx:=@List.getElem?_mapIdx
def Xl:type_of% @PySem.wpAny_setField_rec:=@PySem.wpAny_setField_rec
def Xm:type_of% @PySem.wpAny_passesOwn:=@PySem.wpAny_passesOwn
def Xn:type_of% @PySem.wpAny_Call_Name_kw:=@PySem.wpAny_Call_Name_kw
def Xo:type_of% @Nat.mul_le_mul_left:=@Nat.mul_le_mul_left
def Xp:type_of% @Nat.min_eq_left:=@Nat.min_eq_left
def Xq:type_of% @List.findSome?_cons:=@List.findSome?_cons
def Xr:type_of% @List.filterMap_cons:=@List.filterMap_cons
def Xs:type_of% @List.all_append:=@List.all_append
def Xt:type_of% @List.length_mapIdx:=@List.length_mapIdx
def Xu:type_of% @Int.mul_comm:=@Int.mul_comm
def Xv:type_of% @PySem.wpAny_truthy_bool:=@PySem.wpAny_truthy_bool
def Xw:type_of% @PySem.Paired.snoc:=@PySem.Paired.snoc
def Xx:type_of% @Decidable.byContradiction:=@Decidable.byContradiction
abbrev en:=List PySem.Expr
abbrev cR:=List PySem.Str
abbrev bL:=List PySem.Addr
abbrev jN:=Option PySem.Value
abbrev bD:=List PySem.Value
abbrev ao:=List Int
abbrev a8:=List ao
abbrev eJ:=List (PySem.Str×PySem.Addr)
abbrev bK:=List (PySem.Addr×PySem.Obj)
abbrev du:=Nat->Rat
abbrev dc:=Nat->Nat
abbrev df:=PySem.Str->Option PySem.Value
abbrev ci:=PySem.Value->PySem.Shared->Prop
namespace Nt
def qk_z3{a:Nat}:0<=(a:Int):=Int.natCast_nonneg a
def qk_n9{a b c:Nat}(h:a<b)(k:c=b):a<c:=k▸h
def qk_t1{a:Int}(h:0<=a):a=a.toNat:=(Int.toNat_of_nonneg h).symm
def qk_t3{a:Int}{b:Nat}(h:0<=a)(k:a<b):a.toNat<b:=(Int.toNat_lt h).mpr k
def qk_c1{a b:Nat}(h:a<b):(a:Int)<b:=Int.ofNat_lt.mpr h
def qk_n4{a b c:Nat}(h:a<=b)(k:b<=c:=by decide):a<=c:=Vy h k
def qk_l1{a b c d:Nat}(h:a<b)(k:b<=c)(l:c<=d:=by decide):a<=d:=Vy (WP (VR h k)) l
def qk_z4{a b:Int}(h:¬a<b):b<=a:=Int.not_lt.mp h
def Va{a b:Int}(h:¬a<=b):b<a:=Int.not_le.mp h
def qk_d{p:Prop}(h:p:=by decide):p:=h
theorem E4:∀(m n:Nat)(f:dc),(∀i,i<n->f i<m)->m<n->∃i j,i<j/\j<n/\f i=f j
 |0,n,f,h,g=>absurd (h 0 g) (Nat.not_lt_zero _)
 |m+1,n,f,h,g=>by
  obtain⟨k,rfl⟩:∃k,n=k+1:=⟨n-1,⋯⟩
  by_cases d:∃i,i<k/\f i=f k
  ·obtain⟨i,a,e⟩:=d;exact⟨i,k,a,⋯,e⟩
  ·have b:∀i,i<k->f i≠f k:=λi a e=>d ⟨i,a,e⟩;obtain⟨i,j,p,q,e⟩:=E4 m k (λi=>if f k<f i then f i-1 else f i) (λi a=>by
    have l:=h i ⋯;have o:=h k ⋯;have r:=b i a;show(if f k<f i then f i-1 else f i)<m;split<;>lia) ⋯
   refine⟨i,j,p,⋯,?_⟩;have l:=b i ⋯;have o:=b j q;have c:(if f k<f i then f i-1 else f i)=(if f k<f j then f j-1 else f j):=e;split at c<;>split at c<;>lia
def jx(b:Nat)(f:dc):Nat->Nat
 |0=>0
 |n+1=>f 0+b*jx b (λk=>f (k+1)) n
theorem Es{b:Nat}(d:0<b):∀(n:Nat)(f:dc),(∀k,k<n->f k<b)->jx b f n<b^n
 |0,_,_=>by simp[jx]
 |n+1,f,h=>by
  have c:=Es d n (λk=>f (k+1)) λk e=>h (k+1) ⋯;have a:=h 0 ⋯;show f 0+b*jx b (λk=>f (k+1)) n<b^(n+1);rw[Xf,Nat.mul_comm (b^n) b]
  calc f 0+b*jx b (λk=>f (k+1)) n<b+b*jx b (λk=>f (k+1)) n:=Nat.add_lt_add_right a _
   _=b*(jx b (λk=>f (k+1)) n+1):=by rw[Nat.mul_add,Nat.mul_one,Nat.add_comm]
   _<=b*b^n:=Xo _ c
theorem Er{b:Nat}(g:0<b):∀(n:Nat)(f a:dc),(∀k,k<n->f k<b)->(∀k,k<n->a k<b)->jx b f n=jx b a n->∀k,k<n->f k=a k
 |0,_,_,_,_,_,k,c=>absurd c (Nat.not_lt_zero _)
 |n+1,f,a,h,i,e,k,c=>by
  have d:f 0+b*jx b (λk=>f (k+1)) n=a 0+b*jx b (λk=>a (k+1)) n:=e;have l:=h 0 ⋯;have m:=i 0 ⋯;have j:f 0=a 0:=by have:=Wk (· %b) d;simpa[Nat.add_mul_mod_self_left,Nat.mod_eq_of_lt l,Nat.mod_eq_of_lt m] using this
  have o:jx b (λk=>f (k+1)) n=jx b (λk=>a (k+1)) n:=by rw[j] at d;exact Nat.eq_of_mul_eq_mul_left g (Nat.add_left_cancel d)
  cases k with
  |zero=>exact j
  |succ k=>exact Er g n _ _ (λk c=>h (k+1) ⋯) (λk c=>i (k+1) ⋯) o k ⋯
def cI(a:dc):Nat->Nat
 |0=>1
 |n+1=>a 0*cI (λb=>a (b+1)) n
def d6(a:dc)(i:Nat):Nat->Nat
 |0=>i%a 0
 |k+1=>d6 (λb=>a (b+1)) (i/a 0) k
theorem DQ:∀(k:Nat)(a:dc)(i:Nat),(∀b,0<a b)->d6 a i k<a k
 |0,a,i,h=>Nat.mod_lt i (h 0)
 |k+1,a,i,h=>DQ k (λb=>a (b+1)) (i/a 0) λb=>h (b+1)
theorem DP:∀(n:Nat)(a:dc)(i j:Nat),(∀b,0<a b)->i<cI a n->j<cI a n->(∀k,k<n->d6 a i k=d6 a j k)->i=j
 |0,a,i,j,_,c,d,_=>by simp[cI] at c d;lia
 |n+1,a,i,j,f,c,d,h=>by have e:i%a 0=j%a 0:=h 0 ⋯;have g:i/a 0=j/a 0:=DP n (λb=>a (b+1)) (i/a 0) (j/a 0) (λb=>f (b+1)) (Nat.div_lt_of_lt_mul c) (Nat.div_lt_of_lt_mul d) λk l=>h (k+1) ⋯;rw[<-Nat.div_add_mod i (a 0), <-Nat.div_add_mod j (a 0),e,g]
def eI(f:Nat->Int):Nat->Int
 |0=>0
 |n+1=>eI f n+f n
theorem AF{f:Nat->Int}{y:Nat}:∀{n:Nat},(∀j,j<n->(f j).natAbs<=y)->(eI f n).natAbs<=n*y
 |0,_=>by simp[eI]
 |n+1,h=>by have a:=AF (n:=n) λj d=>h j ⋯;have b:=h n ⋯;have c:(eI f n+f n).natAbs<=(eI f n).natAbs+(f n).natAbs:=Int.natAbs_add_le _ _;show(eI f n+f n).natAbs<=(n+1)*y;rw[Nat.add_mul,Nat.one_mul];lia
theorem IA{f a:Nat->Int}:∀n,eI (λj=>f j-a j) n=eI f n-eI a n
 |0=>by simp[eI]
 |n+1=>by show eI (λj=>f j-a j) n+(f n-a n)=eI f n+f n-(eI a n+a n);rw[IA n];lia
theorem Fm(y:Nat):∀(n:Nat)(M:dc),(∀j,0<M j)->(y+1)^n<=cI (λj=>y/M j+1) n*cI M n
 |0,_,_=>by simp[cI]
 |n+1,M,h=>by
  have d:=Fm y n (λb=>M (b+1)) λb=>h (b+1);have c:y+1<=(y/M 0+1)*M 0:=by have:=Nat.lt_div_mul_add (a:=y) (h 0);rw[Nat.add_mul,Nat.one_mul];lia
  show(y+1)^(n+1)<=((y/M 0+1)*cI (λj=>y/M (j+1)+1) n)*(M 0*cI (λb=>M (b+1)) n)
  calc (y+1)^(n+1)=(y+1)^n*(y+1):=Xf ..
   _<=(cI (λj=>y/M (j+1)+1) n*cI (λb=>M (b+1)) n)*((y/M 0+1)*M 0):=Wt d c
   _=((y/M 0+1)*cI (λj=>y/M (j+1)+1) n)*(M 0*cI (λb=>M (b+1)) n):=by simp only[Nat.mul_comm,Nat.mul_left_comm,Nat.mul_assoc]
theorem zx:∀(n:Nat)(M:dc),(∀j,0<M j)->0<cI M n
 |0,_,_=>by simp[cI]
 |n+1,M,h=>Nat.mul_pos (h 0) (zx n _ λa=>h (a+1))
def SA(q:Nat)(a:Nat->Nat->Int)(M:dc)(r:∀j,0<M j)(A:∀j b,j<q+1->b<q->(a j b).natAbs<=M j):
  ∃c:Nat->Int,(∃j,j<q+1/\c j≠0)/\(∀b,b<q->eI (λj=>c j*a j b) (q+1)=0)/\∀j,j<q+1->(c j).natAbs*M j<=(2*(q+1))^q*cI M (q+1):=by
 generalize F:(2*(q+1))^q*cI M (q+1)=y;have p:∀b,0<(λj=>y/M j+1) b:=λb=>Nat.succ_pos _;generalize E:2*((q+1)*y)+1=w;have n:∀i j,(d6 (λj=>y/M j+1) i j)*M j<=y:=λi j=>by have l:=DQ j (λj=>y/M j+1) i p;have k:d6 (λj=>y/M j+1) i j<=y/M j:=Nat.le_of_lt_succ l;exact Vy (W0 _ k) (Nat.div_mul_le_self y (M j))
 have G:∀i j b,j<q+1->b<q->(((d6 (λj=>y/M j+1) i j:Nat):Int)*a j b).natAbs<=y:=λi j b g d=>by rw[WJ,Int.natAbs_natCast];exact Vy (Xo _ (A j b g d)) (n i j)
 have o:∀i b,b<q->(eI (λj=>((d6 (λj=>y/M j+1) i j:Nat):Int)*a j b) (q+1)).natAbs<=(q+1)*y:=λi b d=>AF λj g=>G i j b g d;have m:∀i b,b<q->(eI (λj=>((d6 (λj=>y/M j+1) i j:Nat):Int)*a j b) (q+1)+(((q+1)*y:Nat):Int)).toNat<w:=λi b d=>by have:=o i b d;omega
 have v:w^q<cI (λj=>y/M j+1) (q+1):=by
  have l:=Fm y (q+1) M r;have k:w<=2*(q+1)*(y+1):=by rw[<-E,Nat.mul_add,Nat.mul_one,Nat.mul_assoc];omega
  have x:w^q<=(2*(q+1))^q*(y+1)^q:=by rw[<-Nat.mul_pow];exact Nat.pow_le_pow_left k q
  have L:=zx (q+1) M r;have z:w^q*cI M (q+1)<(y+1)^(q+1):=by
   calc w^q*cI M (q+1)<=(2*(q+1))^q*(y+1)^q*cI M (q+1):=W0 _ x
    _=(y+1)^q*y:=by rw[<-F];simp only[Nat.mul_comm,Nat.mul_left_comm,Nat.mul_assoc]
    _<(y+1)^q*(y+1):=Nat.mul_lt_mul_of_pos_left (Nat.lt_succ_self y) (Nat.pow_pos (Nat.succ_pos _))
    _=(y+1)^(q+1):=(Xf ..).symm
  exact Nat.lt_of_mul_lt_mul_right (VR z l)
 obtain⟨i,f,J,C,e⟩:=E4 (w^q) (cI (λj=>y/M j+1) (q+1)) (λi=>jx w (λb=>(eI (λj=>((d6 (λj=>y/M j+1) i j:Nat):Int)*a j b) (q+1)+(((q+1)*y:Nat):Int)).toNat) q)
  (λi _=>Es (by omega) q _ λb d=>m i b d) v
 have u:=Er (by omega) q _ _ (λb d=>m i b d) (λb d=>m f b d) e;refine⟨λj=>((d6 (λj=>y/M j+1) i j:Nat):Int)-((d6 (λj=>y/M j+1) f j:Nat):Int),?_,λb d=>?_,λj g=>?_⟩
 ·apply Classical.byContradiction;intro D;have B:∀j,j<q+1->d6 (λj=>y/M j+1) i j=d6 (λj=>y/M j+1) f j:=λj g=>by
   apply Classical.byContradiction;intro K;exact D ⟨j,g,by show((d6 (λj=>y/M j+1) i j:Nat):Int)-((d6 (λj=>y/M j+1) f j:Nat):Int)≠0;omega⟩
  have:=DP (q+1) _ i f p (by omega) C B;omega
 ·have l:=u b d;have H:=o i b d;have I:=o f b d;have k:eI (λj=>((d6 (λj=>y/M j+1) i j:Nat):Int)*a j b) (q+1)=eI (λj=>((d6 (λj=>y/M j+1) f j:Nat):Int)*a j b) (q+1):=by omega
  rw[show(λj=>(((d6 (λj=>y/M j+1) i j:Nat):Int)-((d6 (λj=>y/M j+1) f j:Nat):Int))*a j b)=λj=>((d6 (λj=>y/M j+1) i j:Nat):Int)*a j b-((d6 (λj=>y/M j+1) f j:Nat):Int)*a j b from funext λj=>Int.sub_mul ..,IA,k,Int.sub_self]
 ·have s:=n i j;have t:=n f j;have:(((d6 (λj=>y/M j+1) i j:Nat):Int)-((d6 (λj=>y/M j+1) f j:Nat):Int)).natAbs<=max (d6 (λj=>y/M j+1) i j) (d6 (λj=>y/M j+1) f j):=by omega
  refine Vy (W0 _ this) ?_;rcases Nat.le_total (d6 (λj=>y/M j+1) i j) (d6 (λj=>y/M j+1) f j) with h|h
  ·rw[Nat.max_eq_right h];exact t
  ·rw[Nat.max_eq_left h];exact s
open Wh
noncomputable def cu:List Rat->(Nat->Rat)->Rat
 |[],_=>0
 |x::r,a=>x*a 0+cu r λk=>a (k+1)
theorem uE(q:Rat):∀(r:List Rat)(a:du),cu (r.map λx=>q*x) a=q*cu r a
 |[],_=>by simp[cu]
 |x::r,a=>by show q*x*a 0+cu (r.map λx=>q*x) (λk=>a (k+1))=q*(x*a 0+cu r λk=>a (k+1));rw[uE q r];grind
theorem Cf:∀(a b:List Rat)(c:du),a.length=b.length->cu (List.zipWith (λx y=>x-y) a b) c=cu a c-cu b c
 |[],[],_,_=>by simp[cu];grind
 |[],_::_,_,h=>by simp at h
 |_::_,[],_,h=>by simp at h
 |x::a,y::b,c,h=>by show(x-y)*c 0+cu (List.zipWith (λx y=>x-y) a b) (λk=>c (k+1))=x*c 0+cu a (λk=>c (k+1))-(y*c 0+cu b λk=>c (k+1));rw[Cf a b _ (by simpa using h)];grind
theorem rL:∀(r:List Rat)(a:du),(∀k,k<r.length->r.getD k 0*a k=0)->cu r a=0
 |[],_,_=>rfl
 |x::r,a,h=>by have b:x*a 0=0:=h 0 (by simp);have c:cu r (λk=>a (k+1))=0:=rL r _ λk d=>h (k+1) (by simpa using d);show x*a 0+cu r (λk=>a (k+1))=0;rw[b,c];grind
theorem nk:∀(r:List Rat)(a:du)(i:Nat),i<r.length->(∀k,k<r.length->k≠i->r.getD k 0*a k=0)->cu r a=r.getD i 0*a i
 |[],_,i,c,_=>by simp at c
 |x::r,a,0,_,h=>by have b:cu r (λk=>a (k+1))=0:=rL r _ λk d=>h (k+1) (by simpa using d) ⋯;show x*a 0+cu r (λk=>a (k+1))=x*a 0;rw[b];grind
 |x::r,a,i+1,c,h=>by have e:x*a 0=0:=h 0 (by simp) ⋯;have b:=nk r (λk=>a (k+1)) i (by simpa using c) λk d f=>h (k+1) (by simpa using d) ⋯;show x*a 0+cu r (λk=>a (k+1))=r.getD i 0*a (i+1);rw[e,b];grind
theorem xY:∀(r:List Rat)(a:du)(i j:Nat),i<j->j<r.length->(∀k,k<r.length->k≠i->k≠j->r.getD k 0*a k=0)->cu r a=r.getD i 0*a i+r.getD j 0*a j
 |[],_,_,j,_,b,_=>by simp at b
 |x::r,a,0,j+1,_,b,h=>by have c:=nk r (λk=>a (k+1)) j (by simpa using b) λk d m=>h (k+1) (by simpa using d) ⋯ ⋯;show x*a 0+cu r (λk=>a (k+1))=x*a 0+r.getD j 0*a (j+1);rw[c]
 |x::r,a,i+1,j+1,l,b,h=>by have e:x*a 0=0:=h 0 (by simp) ⋯ ⋯;have c:=xY r (λk=>a (k+1)) i j ⋯ (by simpa using b) λk d f g=>h (k+1) (by simpa using d) ⋯ ⋯;show x*a 0+cu r (λk=>a (k+1))=r.getD i 0*a (i+1)+r.getD j 0*a (j+1);rw[e,c];grind
def ev(a:Rat)(r:Row)(b:du):Rat:=cu r.1 b-a*r.2
def Cp(a q:Rat)(r:Row)(b:du):ev a (scaleRow q r) b=q*ev a r b:=by unfold ev scaleRow;dsimp only;rw[uE];grind
def MQ(c:Rat)(a b:Row)(d:du)(h:a.1.length=b.1.length):ev c (subRow a b) d=ev c a d-ev c b d:=by unfold ev subRow;dsimp only;rw[Cf _ _ _ h];grind
def wB(q:Rat)(r:Row):(scaleRow q r).1.length=r.1.length:=by simp[scaleRow]
def BS{c:Nat}{p r:Row}(h:p.1.length=r.1.length):(clear c p r).1.length=r.1.length:=by
 unfold clear;split
 ·rfl
 ·simp[subRow,scaleRow,h]
def uJ(a:Rat)(c:Nat)(p r:Row)(b:du)(h:p.1.length=r.1.length):ev a (clear c p r) b=ev a r b-r.1.getD c 0*ev a p b:=by
 unfold clear;split
 ·rename_i e;rw[e];grind
 ·rw[MQ _ _ _ _ (by rw[wB];exact h.symm),Cp]
def BR{c k:Nat}{p r:Row}(h:p.1.length=r.1.length)(a:k<r.1.length):(clear c p r).1.getD k 0=r.1.getD k 0-r.1.getD c 0*p.1.getD k 0:=by
 unfold clear;split
 ·rename_i e;rw[e];grind
 ·have b:k<p.1.length:=by lia
  simp only[subRow,scaleRow];rw[Vd,List.getElem?_zipWith,Ve a,Vq,Ve b,Vd (l:=r.1) (i:=k),Ve a,Vd (l:=p.1) (i:=k),Ve b];rfl
def HM{q:Rat}{k:Nat}{r:Row}:(scaleRow q r).1.getD k 0=q*r.1.getD k 0:=by
 simp only[scaleRow];rw[Vd,Vq,Vd];cases r.1[k]? with
 |none=>simp
 |some x=>rfl
def mY(a:Rat)(b:du)(d:List (Nat×Row))(l:List Row):Prop:=(∀x,x∈d->ev a x.2 b=0)/\∀r,r∈l->ev a r b=0
def lE(m:Nat)(d:List (Nat×Row))(l:List Row):Prop:=(∀x,x∈d->x.2.1.length=m)/\∀r,r∈l->r.1.length=m
noncomputable def ii(c:Nat)(p:Row)(d:List (Nat×Row)):List (Nat×Row):=(d.map λx=>(x.1,clear c p x.2))++[(c,p)]
def lV(c:Nat)(p:Row)(l:List Row)(i:Nat):List Row:=(l.eraseIdx i).map λr=>clear c p r
def vD{b:Type}{l:List b}{i:Nat}(h:i<l.length)(r:b):r∈l↔r=l[i]\/r∈l.eraseIdx i:=by
 rw[List.mem_eraseIdx_iff_getElem];constructor
 ·intro c;obtain⟨j,a,rfl⟩:=V6 c;by_cases e:j=i
  ·subst e;exact .inl rfl
  ·exact .inr ⟨j,a,e,rfl⟩
 ·rintro(rfl|⟨j,a,_,rfl⟩)
  ·exact Vs h
  ·exact Vs a
def Iu{b:Rat}{f:du}{m c:Nat}{d:List (Nat×Row)}{l:List Row}{i:Nat}(h:i<l.length)(w:lE m d l)(v:l[i].1.getD c 0≠0):
  mY b f (ii c (scaleRow (1/l[i].1.getD c 0) l[i]) d) (lV c (scaleRow (1/l[i].1.getD c 0) l[i]) l i)↔mY b f d l:=by
 have k:(scaleRow (1/l[i].1.getD c 0) l[i]).1.length=m:=by rw[wB];exact w.2 _ (Vs h)
 have j:ev b (scaleRow (1/l[i].1.getD c 0) l[i]) f=1/l[i].1.getD c 0*ev b l[i] f:=Cp _ _ _ _;generalize B:scaleRow (1/l[i].1.getD c 0) l[i]=p at k j ⊢;constructor
 ·intro ⟨q,s⟩;have g:ev b p f=0:=q (c,p) (by simp[ii]);have z:ev b l[i] f=0:=by
   rw[g] at j;generalize ev b l[i] f=e at j ⊢;generalize l[i].1.getD c 0=a at j v;grind
  refine⟨λx o=>?_,λr n=>?_⟩
  ·have:=q (x.1,clear c p x.2) (by simp only[ii,VQ,Vz];exact .inl ⟨x,o,rfl⟩);dsimp only at this;rw[uJ _ _ _ _ _ (by rw[k,w.1 x o]),g] at this;grind
  ·rcases(vD h r).mp n with e|A
   ·rw[e];exact z
   ·have:=s (clear c p r) (by simp only[lV,Vz];exact⟨r,A,rfl⟩);rw[uJ _ _ _ _ _ (by rw[k,w.2 r n]),g] at this;grind
 ·intro ⟨q,s⟩;have g:ev b p f=0:=by rw[j,s _ (Vs h)];grind
  refine⟨λx o=>?_,λr n=>?_⟩
  ·simp only[ii,VQ,Vz,VH] at o;rcases o with ⟨y,t,rfl⟩|rfl
   ·dsimp only;rw[uJ _ _ _ _ _ (by rw[k,w.1 y t]),g,q y t];grind
   ·exact g
  ·simp only[lV,Vz] at n;obtain⟨y,t,rfl⟩:=n;have u:=(vD h y).mpr (.inr t);rw[uJ _ _ _ _ _ (by rw[k,w.2 y u]),g,s y u];grind
def Iv{m c:Nat}{d:List (Nat×Row)}{l:List Row}{i:Nat}(h:i<l.length)(w:lE m d l)(a:Rat):
  lE m (ii c (scaleRow a l[i]) d) (lV c (scaleRow a l[i]) l i):=by
 have e:(scaleRow a l[i]).1.length=m:=by rw[wB];exact w.2 _ (Vs h)
 refine⟨λx g=>?_,λr f=>?_⟩
 ·simp only[ii,VQ,Vz,VH] at g;rcases g with ⟨y,b,rfl⟩|rfl
  ·dsimp only;rw[BS (by rw[e,w.1 y b]),w.1 y b]
  ·exact e
 ·simp only[lV,Vz] at f;obtain⟨y,b,rfl⟩:=f;have j:=(vD h y).mpr (.inr b);rw[BS (by rw[e,w.2 y j]),w.2 y j]
def vY{f c:Nat}{d:List (Nat×Row)}{l:List Row}(h:(l.findIdx? λ(r:Row)=>decide (r.1.getD c 0≠0))=none):reduceFrom (f+1) c d l=reduceFrom f (c+1) d l:=by rw[reduceFrom,h]
def vZ{f c i:Nat}{d:List (Nat×Row)}{l:List Row}(h:(l.findIdx? λ(r:Row)=>decide (r.1.getD c 0≠0))=some i):
  ∃a:i<l.length,l[i].1.getD c 0≠0/\reduceFrom (f+1) c d l=reduceFrom f (c+1) (ii c (scaleRow (1/l[i].1.getD c 0) l[i]) d) (lV c (scaleRow (1/l[i].1.getD c 0) l[i]) l i):=by
 have b:=List.findIdx?_eq_some_iff_getElem.mp h;obtain⟨a,g,_⟩:=b;refine⟨a,by simpa using g,?_⟩;rw[reduceFrom,h];have e:l.getD i ([],0)=l[i]:=by rw[Vd,Ve a];rfl
 dsimp only;rw[e];rfl
theorem zL{b:Rat}{g:du}{m:Nat}:∀(f c:Nat)(d:List (Nat×Row))(l:List Row),lE m d l->(mY b g (reduceFrom f c d l).1 (reduceFrom f c d l).2↔mY b g d l)
 |0,_,_,_,_=>Iff.rfl
 |f+1,c,d,l,w=>by
  cases h:l.findIdx? λ(r:Row)=>decide (r.1.getD c 0≠0) with
  |none=>rw[vY h];exact zL f (c+1) d l w
  |some i=>obtain⟨a,j,e⟩:=vZ (f:=f) (d:=d) h;rw[e];exact(zL f (c+1) _ _ (Iv a w _)).trans (Iu a w j)
theorem zM:∀(f c:Nat)(d:List (Nat×Row))(l:List Row),(reduceFrom f c d l).1.length<=d.length+f
 |0,_,_,_=>Vm _
 |f+1,c,d,l=>by
  cases h:l.findIdx? λ(r:Row)=>decide (r.1.getD c 0≠0) with
  |none=>rw[vY h];have:=zM f (c+1) d l;lia
  |some i=>
   obtain⟨g,b,e⟩:=vZ (f:=f) (d:=d) h;rw[e];have:=zM f (c+1) (ii c (scaleRow (1/l[i].1.getD c 0) l[i]) d) (lV c (scaleRow (1/l[i].1.getD c 0) l[i]) l i);have a:(ii c (scaleRow (1/l[i].1.getD c 0) l[i]) d).length=d.length+1:=by simp[ii]
   lia
theorem zN:∀(f c:Nat)(d:List (Nat×Row))(l:List Row),(reduceFrom f c d l).1.length+(reduceFrom f c d l).2.length=d.length+l.length
 |0,_,_,_=>rfl
 |f+1,c,d,l=>by
  cases h:l.findIdx? λ(r:Row)=>decide (r.1.getD c 0≠0) with
  |none=>rw[vY h];exact zN f (c+1) d l
  |some i=>
   obtain⟨a,b,e⟩:=vZ (f:=f) (d:=d) h;rw[e,zN f (c+1)];simp only[ii,lV,Vw,Vn,List.length_singleton,List.length_eraseIdx,a,WF]
   lia
structure om(m c:Nat)(d:List (Nat×Row))(l:List Row):Prop where
 aC:d.length=c
 one:∀(j:Nat)(h:j<d.length)(k:Nat),k<c->d[j].2.1.getD k 0=if j=k then 1 else 0
 zero:∀r,r∈l->∀k,k<c->r.1.getD k 0=0
def S3{m c:Nat}{d:List (Nat×Row)}{l:List Row}{i:Nat}(h:i<l.length)(B:c<m)(w:lE m d l)(b:om m c d l)(A:l[i].1.getD c 0≠0):
  om m (c+1) (ii c (scaleRow (1/l[i].1.getD c 0) l[i]) d) (lV c (scaleRow (1/l[i].1.getD c 0) l[i]) l i):=by
 have q:(scaleRow (1/l[i].1.getD c 0) l[i]).1.length=m:=by rw[wB];exact w.2 _ (Vs h)
 have n:(scaleRow (1/l[i].1.getD c 0) l[i]).1.getD c 0=1:=by rw[HM];grind
 have g:∀k,k<c->(scaleRow (1/l[i].1.getD c 0) l[i]).1.getD k 0=0:=by intro k o;rw[HM,b.zero _ (Vs h) k o];grind
 generalize scaleRow (1/l[i].1.getD c 0) l[i]=p at q n g ⊢;refine⟨by simp[ii,b.aC],λj u k o=>?_,λr t k o=>?_⟩
 ·have x:=b.aC;have C:j<c+1:=by simpa[ii,x] using u
  by_cases f:j<d.length
  ·have e:(ii c p d)[j]=(d[j].1,clear c p d[j].2):=by simp[ii,List.getElem_append_left,f]
   rw[e];dsimp only;rw[BR (by rw[q,w.1 _ (Vs f)]) (by rw[w.1 _ (Vs f)];lia)];by_cases a:k<c
   ·rw[g k a,b.one j f k a];grind
   ·have:k=c:=by lia
    subst this;rw[n,Vg ⋯];grind
  ·have v:j=d.length:=by lia
   subst v;have e:(ii c p d)[d.length]=(c,p):=by simp[ii]
   rw[e];dsimp only;by_cases a:k<c
   ·rw[g k a,Vg ⋯]
   ·have:k=c:=by lia
    subst this;rw[n,Vh ⋯]
 ·simp only[lV,Vz] at t;obtain⟨y,z,rfl⟩:=t;have s:=(vD h y).mpr (.inr z);rw[BR (by rw[q,w.2 y s]) (by rw[w.2 y s];lia)];by_cases a:k<c
  ·rw[g k a,b.zero y s k a];grind
  ·have:k=c:=by lia
   subst this;rw[n];grind
def SE{m c:Nat}{d:List (Nat×Row)}{l:List Row}(u:c<m)(w:lE m d l)(g:om m c d l)(h:∀r,r∈l->r.1.getD c 0=0):
  ∃o:Nat->Rat,o c=1/\mY 0 o d l:=by
 refine⟨λk=>if k=c then 1 else if k<c then-((d.map λx=>x.2.1.getD c 0).getD k 0) else 0,by simp,λx s=>?_,λr n=>?_⟩
 ·obtain⟨j,f,rfl⟩:=V6 s;have q:=w.1 _ (Vs f);have v:=g.aC;have i:j<c:=by lia
  unfold ev;rw[xY _ _ j c i ⋯ (λk p t b=>?_)]
  ·rw[g.one j f j i];have e:((d.map λx=>x.2.1.getD c 0).getD j 0)=d[j].2.1.getD c 0:=by
    rw[Vd,Vq,Ve f];rfl
   simp only[Vh,e,Vg (show ¬j=c by lia),Vh i];grind
  ·by_cases a:k<c
   ·rw[g.one j f k a,Vg ⋯];grind
   ·simp only[Vg b,Vg a];grind
 ·have q:=w.2 r n;unfold ev;rw[rL _ _ (λk p=>?_)]
  ·grind
  ·by_cases a:k<c
   ·rw[g.zero r n k a];grind
   ·by_cases b:k=c
    ·rw[b,h r n];grind
    ·simp only[Vg b,Vg a];grind
theorem zK{m:Nat}:∀(f c:Nat)(d:List (Nat×Row))(l:List Row),c+f=m->lE m d l->om m c d l->
  ((reduceFrom f c d l).1.length=m/\om m m (reduceFrom f c d l).1 (reduceFrom f c d l).2/\lE m (reduceFrom f c d l).1 (reduceFrom f c d l).2)\/
  ((reduceFrom f c d l).1.length<m/\∃b:Nat->Rat,(∃k,k<m/\b k≠0)/\mY 0 b d l)
 |0,c,d,l,p,w,a=>by
  have:c=m:=by lia
  subst this;exact .inl ⟨a.aC,a,w⟩
 |f+1,c,d,l,p,w,a=>by
  cases h:l.findIdx? λ(r:Row)=>decide (r.1.getD c 0≠0) with
  |none=>
   rw[vY h];refine .inr ⟨?_,?_⟩
   ·have:=zM f (c+1) d l;have:=a.aC
    lia
   ·obtain⟨b,g,j⟩:=SE ⋯ w a (λr q=>by
     have:=List.findIdx?_eq_none_iff.mp h r q;simpa using this)
    exact⟨b,⟨c,⋯,by rw[g];grind⟩,j⟩
  |some i=>
   obtain⟨n,o,e⟩:=vZ (f:=f) (d:=d) h;rw[e];rcases zK f (c+1) _ _ ⋯ (Iv n w _) (S3 n ⋯ w a o) with g|⟨g,b,s,j⟩
   ·exact .inl g
   ·exact .inr ⟨g,b,s,(Iu n w o).mp j⟩
def HZ{m:Nat}{l:List Row}{x:List Rat}(w:∀r,r∈l->r.1.length=m)(h:solve m l=some x):
  l.length=m/\x.length=m/\(∀r,r∈l->ev 1 r (λk=>x.getD k 0)=0)/\(∀(a:Rat)(b:du),(∀r,r∈l->ev a r b=0)->∀k,k<m->b k=a*x.getD k 0):=by
 unfold solve at h;split at h
 ·rename_i g;obtain⟨g,t⟩:=g;have q:lE m [] l:=⟨λ_ h=>by simp at h,w⟩
  have u:om m 0 [] l:=⟨rfl,λj h=>by simp at h,λ_ _ k h=>⋯⟩
  simp only[VC] at h;unfold rank at g;rcases zK m 0 [] l ⋯ q u with ⟨i,e,n⟩|⟨i,_⟩
  ·have f:∀(a:Rat)(b:du),mY a b (reduceFrom m 0 [] l).1 (reduceFrom m 0 [] l).2↔mY a b [] l:=λa b=>zL m 0 [] l q;unfold reduced at h;have p:(reduceFrom m 0 [] l).2=[]:=by
    have:=zN m 0 [] l;simp only[List.length_nil] at this;exact Xi ⋯
   rw[p] at e n;simp only[p] at f;generalize (reduceFrom m 0 [] l).1=d at h i e n f;have o:∀(a:Rat)(b:du)(j:Nat)(c:j<d.length),ev a d[j].2 b=b j-a*x.getD j 0:=by
    intro a b j c;have B:=n.1 _ (Vs c);unfold ev;rw[nk _ _ j ⋯ (λk s A=>by rw[e.one j c k ⋯,Vg ⋯];grind),e.one j c j ⋯,Vh rfl];have:x.getD j 0=d[j].2.2:=by rw[<-h,Vd,Vq,Ve c];rfl
    rw[this];grind
   refine⟨t,by rw[<-h];simp[i],?_,?_⟩
   ·refine((f 1 _).mp ⟨λy v=>?_,λ_ h=>by simp at h⟩).2;obtain⟨j,c,rfl⟩:=V6 v;rw[o];grind
   ·intro a b z k s;have:=((f a b).mpr ⟨λ_ h=>by simp at h,z⟩).1 d[k] (Vs ⋯);rw[o a b k ⋯] at this;grind
  ·unfold reduced at g;lia
 ·simp at h
def SK{m:Nat}{l:List Row}(w:∀r,r∈l->r.1.length=m)(d:l.length=m)(h:solve m l=none):
  ∃a:Nat->Rat,(∃k,k<m/\a k≠0)/\∀r,r∈l->ev 0 r a=0:=by
 have f:lE m [] l:=⟨λ_ h=>by simp at h,w⟩
 have e:om m 0 [] l:=⟨rfl,λj h=>by simp at h,λ_ _ k h=>⋯⟩
 rcases zK m 0 [] l ⋯ f e with ⟨b,_⟩|⟨_,a,g,c⟩
 ·unfold solve rank reduced at h;rw[Vh ⟨b,d⟩] at h;simp at h
 ·exact⟨a,g,c.2⟩
end Nt
namespace Nt
abbrev Fr:=Int×Int
abbrev aG:=List Fr
abbrev cv:=List aG
noncomputable def cN(x y:Int):Int:=(Int.gcd x y:Nat)
def plus(x y:Fr):Fr:=(x.1*y.2+y.1*x.2,x.2*y.2)
def dS(x y:Fr):Fr:=(x.1*y.2-y.1*x.2,x.2*y.2)
noncomputable def cf(x:Fr):Fr:=(-x.1,x.2)
noncomputable def bI(x y:Fr):Fr:=(x.1*y.1,x.2*y.2)
def cU(x y:Fr):Fr:=(x.1*y.2,x.2*y.1)
def above(x y:Fr):Bool:=decide (y.1*x.2<x.1*y.2)
def fR(s:Int)(x:Fr):Int:=s*(x.2/cN s x.2)
def aR(l:aG):Int:=l.foldl fR 1
def cS(l:aG)(s:Int):ao:=l.map λx=>x.1*(s/x.2)
noncomputable def oU(x:Fr)(aX:Int):Bool:=decide (x.2<2*(aX-aX/x.2*x.2))||(decide (2*(aX-aX/x.2*x.2)=x.2)&&decide (aX/x.2%2=1))
def rounded(x:Fr)(f:Int):Fr:=(if oU x (x.1*f)=true then x.1*f/x.2+1 else x.1*f/x.2,f)
def ga(n:Int):Int:=2^n.toNat
def kr(n k:Nat)(a:aG):ao:=cS a (aR a)++(List.replicate n (0:Int)).set k (aR a)
def eK(laws:cv):a8:=laws.mapIdx λk a=>kr laws.length k a
def de(a:ao):Int:=a.foldl cN 0
def iY(a:ao):ao:=if de a=0 then a else a.map λx=>x/de a
def kZ(a:a8)(i j:Nat):Int:=(a.getD i []).getD j 0
def nJ(a:a8)(k:Nat):Nat->Nat->Option Nat
 |0,_=>none
 |f+1,p=>if kZ a p k≠0 then some p else nJ a k f (p+1)
def kF(a:a8)(k:Nat):Option Nat:=nJ a k (a.length-k) k
def gR(b a:ao)(k:Nat):ao:=iY (List.zipWith (λx y=>a.getD k 0*x-b.getD k 0*y) b a)
def fO(a:ao)(k:Nat):ao:=if 0<a.getD k 0 then a else a.map λx=> -x
def dR(a:a8)(k p:Nat):a8:=(a.set p (a.getD k [])).set k (fO (a.getD p []) k)
def hX(a:a8)(k i:Nat)(r:ao):ao:=if i≠k/\r.getD k 0≠0 then gR r (a.getD k []) k else r
def i9(a:a8)(k j:Nat):a8:=a.mapIdx λi r=>if i<j then hX a k i r else r
def jR(a:a8)(k:Nat):a8:=i9 a k a.length
def elim(a:a8)(k:Nat):Option a8:=(kF a k).map λp=>jR (dR a k p) k
def fS(a:a8):Nat->Option a8
 |0=>some a
 |k+1=>(fS a k).bind λr=>elim r k
def solve(a:a8):Option a8:=fS a a.length
def unknown(n:Nat)(c:ao)(b:Int)(k:Nat)(a:ao):Fr:=((List.zipWith (λx y=>x*y) (a.drop n) c).sum,a.getD k 0*b)
def fD(a:a8)(right:aG):aG:=a.mapIdx λk b=>unknown a.length (cS right (aR right)) (aR right) k b
noncomputable def gn(b:ao)(i:Int):Bool:=b.any λa=>a==i
def dg(k:Int):Bool:=gn [4,5] k
def iQ(k:Int):Bool:=gn [6,7,10,11] k
def gG(k:Int):Bool:=gn [8,9] k
def cT(k:Int):Bool:=gn [1,2] k
def pj(k:Int):Bool:=gn [1,5,7,9] k
def gm(k:Int):Int:=if k=3 then 0 else if k=10 then 2 else 1
structure cJ where
 kind:Int
 a:Int
 b:Int
 c:Int
 d:Int
 q:Fr
abbrev bh:=List cJ
noncomputable def ji(l:ao):cJ:=⟨l.getD 0 0,l.getD 1 0,l.getD 2 0,l.getD 3 0,l.getD 4 0,(l.getD 5 0,l.getD 6 0)⟩
def seven(net:ao)(j:Nat):ao:=(net.drop (1+7*j)).take 7
def bC(net:ao):bh:=(List.range (net.length/7)).map λj=>ji (seven net j)
noncomputable def cO(a b:Int):Bool:=decide (-1000000<=a)&&(decide (a<=1000000)&&(decide (1<=b)&&decide (b<=1000000)))
def k_(p:Int):Bool:= !(decide (p<0)||decide (63<p))
def gW(l:ao):Bool:= !(decide (l.getD 0 0<0)||decide (13<l.getD 0 0))&&(((l.drop 1).take 4).all k_&&cO (l.getD 5 0) (l.getD 6 0))
noncomputable def mr(net:ao)(j:Nat):Int:=(((List.range j).filter λi=>decide (net.getD (1+7*i) 0=13)).length:Nat)
def ia(net:ao):Bool:= !(decide (net.length%7≠1)||(decide (net.getD 0 0<1)||decide (8<net.getD 0 0)))&&(!decide (71<net.length)&&(((List.range (net.length/7)).all λj=>gW (seven net j))&&decide (mr net (net.length/7)<=3)))
structure dX where
 period:Fr
 cD:aG
 fP:aG
 length:Int
abbrev c_:=List (Option dX)
structure bB where
 nodes:Int
 af:bh
 waves:c_
 aW:ao
 size:Int
 diodes:ao
 eO:List (List (Int×Fr))
structure i7 where
 states:ao
 aE:aG
instance:Inhabited cJ:=⟨⟨0,0,0,0,0,(0,1)⟩⟩
noncomputable def ae:cJ:=⟨0,0,0,0,0,(0,1)⟩
def dN(k:Int)(p:cJ):List (Int×Fr):=if p.kind=3/\p.a=k then [(p.b,p.q)] else if p.kind=3/\p.b=k then [(p.a,p.q)] else []
def cP(af:bh)(k:Nat):List (Int×Fr):=if (af.getD k ae).kind≠2 then [] else ((k:Int),(af.getD k ae).q)::af.flatMap (dN k)
def fC(n:Int):bh->ao
 |[]=>[]
 |p::r=>n::fC (n+gm p.kind) r
def fw(n:Int):bh->Int
 |[]=>n
 |p::r=>fw (n+gm p.kind) r
def bw(af:bh):ao:=((List.range af.length).filter λk=>decide ((af.getD k ae).kind=13)).map λ(k:Nat)=>(k:Int)
def ak(a:Int)(af:bh)(b:c_):bB:=⟨a,af,b,fC a af,fw a af,bw af,(List.range af.length).map (cP af)⟩
def jv(a time:Fr):Fr:=if above a (0,1)=true then dS time (bI ((cU time a).1/(cU time a).2,1) a) else time
noncomputable def am:Fr:=(0,1)
def qM(w:dX)(k:Nat)(m:Fr):Fr:=
 plus (w.fP.getD (k-1) am) (cU (bI (dS (w.fP.getD k am) (w.fP.getD (k-1) am)) (dS m (w.cD.getD (k-1) am))) (dS (w.cD.getD k am) (w.cD.getD (k-1) am)))
def lZ(w:dX)(m:Fr):Nat->Nat->Fr
 |0,_=>w.fP.getD (w.fP.length-1) am
 |f+1,k=>if above (w.cD.getD k am) m=true then qM w k m else lZ w m f (k+1)
def valueAt(w:dX)(a:Fr):Fr:=lZ w (jv w.period a) (w.cD.length-1) 1
def jD(a:aG):Bool:=decide ((a.getD 0 am).1=0)&&(List.range (a.length-1)).all λj=>above (a.getD (j+1) am) (a.getD j am)
def jY(p l:Fr):Bool:=decide (p.1=0)||above p l
noncomputable def bS(b:ao)(a m:Nat):aG:=(List.range (1+2*m)).map λj=>(b.getD (a+1+2*j) 0,b.getD (a+2+2*j) 0)
def cC(l:aG)(s m:Nat):aG:=(List.range m).map λj=>l.getD (s+2*j) am
def fV(b:ao)(a:Nat):Option dX:=
 if b.length<=a\/b.getD a 0<1\/8<b.getD a 0 then none
 else if b.length<a+(3+4*(b.getD a 0).toNat) then none
 else
  let m:=(b.getD a 0).toNat
  let c:=bS b a m
  if (c.all λx=>cO x.1 x.2)=false then none
  else if jD (cC c 1 m)=false\/jY (c.getD 0 am) ((cC c 1 m).getD (m-1) am)=false then none
  else some ⟨c.getD 0 am,cC c 1 m,cC c 2 m,3+4*b.getD a 0⟩
def bN(a:ao):bh->Nat->c_
 |[],_=>[]
 |p::r,at_=>if dg p.kind=true then (match fV a at_ with
   |none=>[]
   |some w=>some w::bN a r (at_+w.length.toNat)) else none::bN a r at_
noncomputable def ju:Option dX->ao
 |none=>[]
 |some w=>[w.length]
def fq(ws:c_):Int:=(ws.flatMap ju).sum
def eP(p:cJ):ao:=if p.kind=3 then [] else if iQ p.kind=true then [p.a,p.b,p.c,p.d] else [p.a,p.b]
def lO(p:cJ):Bool:=
 if gn [0,1,2] p.kind=true then decide (0<p.q.1) else if p.kind=10 then !decide (p.q.1=0) else if p.kind=11 then decide (p.q.1=0)
 else if p.kind=12 then decide (p.q.1=0)||decide (p.q.1=p.q.2) else if p.kind=13 then decide (0<=p.q.1) else true
def fN(af:bh)(x k:Int):Bool:=decide (x<k)&&decide ((af.getD x.toNat ae).kind=2)
def j6(o p:cJ):Bool:=(decide (o.a=p.a)&&decide (o.b=p.b))||(decide (o.a=p.b)&&decide (o.b=p.a))
def nr(af:bh)(k:Nat):Bool:= !decide ((af.getD k ae).a=(af.getD k ae).b)&&(af.take k).all λo=> !(decide (o.kind=3)&&j6 o (af.getD k ae))
def gM(af:bh)(k:Nat):Bool:=
 if gG (af.getD k ae).kind=true then decide ((af.getD k ae).c<k)&& !decide ((af.getD (af.getD k ae).c.toNat ae).kind=3)
 else if (af.getD k ae).kind=3 then fN af (af.getD k ae).a k&&(fN af (af.getD k ae).b k&&nr af k) else true
def jz(c:Int)(af:bh)(k:Nat):Int:=
 if c<(eP (af.getD k ae)).foldl max 0 then 1 else if lO (af.getD k ae)=false then 2 else if gM af k=false then 3
 else if (af.getD k ae).kind=3/\above (bI (af.getD k ae).q (af.getD k ae).q) (bI (af.getD (af.getD k ae).a.toNat ae).q (af.getD (af.getD k ae).b.toNat ae).q)=true then 2 else 0
noncomputable def jr(a:Int)(af:bh):Nat->Nat->ao
 |0,_=>[]
 |f+1,k=>if jz a af k≠0 then [(k:Int),jz a af k] else jr a af f (k+1)
def hZ(a:Int)(af:bh):ao:=jr a af af.length 0
noncomputable def cj:Nat->a8
 |0=>[[]]
 |n+1=>(cj n).map (λr=>0::r)++(cj n).map λr=>1::r
def jw(a:aG)(n:Int):Fr:=if n=0 then am else a.getD (n-1).toNat am
def cW(a:aG)(b:Int)(x:Fr):aG:=a.set b.toNat (plus (a.getD b.toNat am) x)
def iw(c:aG)(a b:Int)(x:Fr):aG:=
 if b=0 then (if a=0 then c else cW c (a-1) x) else cW (if a=0 then c else cW c (a-1) x) (b-1) (cf x)
def kC(n:bB)(k:Nat)(states:ao):Bool:=
 if (n.af.getD k ae).kind=13 then decide (states.getD (n.diodes.idxOf (k:Int)) 0=0) else decide ((n.af.getD k ae).kind=12)&&decide ((n.af.getD k ae).q.1=0)
def bO:Fr:=(1,1)
def ir(a:cv)(i b:Int)(x:Fr):cv:=a.set i.toNat (cW (a.getD i.toNat []) b x)
def gA(c:cv)(d a b:Int):cv:=
 if b=0 then (if a=0 then c else ir c (a-1) d bO) else ir (if a=0 then c else ir c (a-1) d bO) (b-1) d (cf bO)
def jk(c:aG)(n:bB)(k:Nat)(states:ao):aG:=
 if (n.af.getD k ae).kind=11 then c
 else if pj (n.af.getD k ae).kind=true\/kC n k states=true then cW c (n.aW.getD k 0) bO
 else iw c (n.af.getD k ae).a (n.af.getD k ae).b bO
def jO(n:bB)(aj:Fr)(a:aG)(l:List (Int×Fr)):aG:=l.foldl (λr x=>cW r (n.aW.getD x.1.toNat 0) (cf (bI aj x.2))) a
def lY(e:aG)(n:bB)(k:Nat)(aj:Fr):aG:=
 if (n.af.getD k ae).kind=11 then iw e (n.af.getD k ae).c (n.af.getD k ae).d bO
 else if iQ (n.af.getD k ae).kind=true then iw e (n.af.getD k ae).c (n.af.getD k ae).d (cf (n.af.getD k ae).q)
 else if (n.af.getD k ae).kind=0 then cW e (n.aW.getD k 0) (cf (n.af.getD k ae).q)
 else if (n.af.getD k ae).kind=1 then iw e (n.af.getD k ae).a (n.af.getD k ae).b (bI aj (cf (n.af.getD k ae).q))
 else if (n.af.getD k ae).kind=2 then jO n aj e (n.eO.getD k [])
 else if gG (n.af.getD k ae).kind=true then cW e (n.aW.getD (n.af.getD k ae).c.toNat 0) (cf (n.af.getD k ae).q)
 else e
def mT(a:cv)(n:bB)(aj:Fr)(states:ao)(k:Nat):cv:=
 a.set (n.aW.getD k 0).toNat (lY (jk (a.getD (n.aW.getD k 0).toNat []) n k states) n k aj)
def mI(n:bB)(aj:Fr)(states:ao)(e:cv)(k:Nat):cv:=
 if (n.af.getD k ae).kind=3 then e
 else if (n.af.getD k ae).kind=10 then
  ir (ir (gA (mT (gA e (n.aW.getD k 0) (n.af.getD k ae).a (n.af.getD k ae).b) n aj states k) (n.aW.getD k 0+1) (n.af.getD k ae).c (n.af.getD k ae).d) (n.aW.getD k 0+1) (n.aW.getD k 0+1) bO) (n.aW.getD k 0+1) (n.aW.getD k 0) (n.af.getD k ae).q
 else mT (gA e (n.aW.getD k 0) (n.af.getD k ae).a (n.af.getD k ae).b) n aj states k
def iR(n:bB)(aj:Fr)(states:ao)(j:Nat):cv:=(List.range j).foldl (mI n aj states) (List.replicate n.size.toNat (List.replicate n.size.toNat am))
def fm(n:bB)(aj:Fr)(states:ao):cv:=iR n aj states n.af.length
def fU(n:bB)(c:aG)(k:Nat):Fr:=dS (jw c (n.af.getD k ae).a) (jw c (n.af.getD k ae).b)
def fK(n:bB)(a:aG)(k:Nat):Fr:=a.getD (n.aW.getD k 0).toNat am
def km(n:bB)(a:aG)(x:Int×Int):Bool:=
 !(decide (x.2=1)&&above am (fK n a x.1.toNat))&& !(decide (x.2=0)&&above (fU n a x.1.toNat) (n.af.getD x.1.toNat ae).q)
def kX(n:bB)(states:ao)(a:aG):Bool:=(n.diodes.zip states).all (km n a)
abbrev c7:=List (Option (Fr×Fr))
def bY(kept:c7)(k:Nat):Fr×Fr:=(kept.getD k none).getD (am,am)
def jU(kept:c7)(l:List (Int×Fr)):Fr:=l.foldl (λa x=>plus a (bI x.2 (bY kept x.1.toNat).2)) am
def iX(n:bB)(rule:Int)(aj:Fr)(kept:c7)(k:Nat):Fr:=
 if (n.af.getD k ae).kind=1 then plus (bI aj (bI (n.af.getD k ae).q (bY kept k).1)) (bI (rule,1) (bY kept k).2)
 else plus (bI aj (jU kept (n.eO.getD k []))) (bI (rule,1) (bY kept k).1)
def mN:dX:=⟨am,[],[],0⟩
def ig(n:bB)(rule:Int)(aj time:Fr)(kept:c7)(a:aG)(k:Nat):aG:=
 if dg (n.af.getD k ae).kind=true then a.set (n.aW.getD k 0).toNat (valueAt ((n.waves.getD k none).getD mN) time)
 else if cT (n.af.getD k ae).kind=true then a.set (n.aW.getD k 0).toNat (cf (iX n rule aj kept k))
 else a
def kn(n:bB)(a:aG)(x:Int×Int):aG:=if x.2=1 then a.set (n.aW.getD x.1.toNat 0).toNat (n.af.getD x.1.toNat ae).q else a
def gq(n:bB)(rule:Int)(aj:Fr)(states:ao)(time:Fr)(kept:c7):aG:=
 (n.diodes.zip states).foldl (kn n) ((List.range n.af.length).foldl (ig n rule aj time kept) (List.replicate n.size.toNat am))
def j7(n:bB)(aj:Fr)(states:ao):Option a8:=solve (eK (fm n aj states))
def gQ(n:bB)(rule:Int)(aj time:Fr)(kept:c7)(states:ao):Option i7:=
 (j7 n aj states).bind λs=>if kX n states (fD s (gq n rule aj states time kept))=true then some ⟨states,fD s (gq n rule aj states time kept)⟩ else none
def fM(n:bB)(rule:Int)(aj:Fr)(a:a8)(time:Fr)(kept:c7):Option i7:=a.findSome? (gQ n rule aj time kept)
def fc(n:bB)(a:aG)(f:Int):c7:=
 (List.range n.af.length).map λk=>if cT (n.af.getD k ae).kind=true then some (Nt.rounded (fU n a k) f,Nt.rounded (fK n a k) f) else none
def li(n:bB):Option i7:=fM n 0 am (cj n.diodes.length) am (List.replicate n.af.length (some (am,am)))
structure dr where
 rule:Int
 aU:Fr
 gF:Int
 made:Int
 cF:i7
 di:c7
def fQ(rule:Int)(aU:Fr):Fr:=cU (rule+1,1) aU
def iE(r:dr)(k:Int):Fr:=(k*r.aU.1,r.aU.2)
def fG(n:bB)(r:dr):Option dr:=
 (fM n r.rule (fQ r.rule r.aU) (r.cF.states::cj n.diodes.length) (iE r (r.made+1)) r.di).map λm=>⟨r.rule,r.aU,r.gF,r.made+1,m,fc n m.aE r.gF⟩
noncomputable def gB(n:bB):Nat->dr->Nat×dr
 |0,r=>(0,r)
 |k+1,r=>match fG n r with
  |none=>(0,r)
  |some q=>((gB n k q).1+1,(gB n k q).2)
def cn(x:Fr):Fr:=(x.1/cN x.1 x.2,x.2/cN x.1 x.2)
def quantity(n:bB)(a:aG)(b k:Int):Option Fr:=
 if b=0 then (if k<=n.nodes then some (jw a k) else none)
 else if 3<b\/¬k<(n.af.length:Nat)\/(n.af.getD k.toNat ae).kind=3 then none
 else if b=1 then some (fK n a k.toNat)
 else if b=2 then some (fU n a k.toNat)
 else some (bI (fU n a k.toNat) (fK n a k.toNat))
structure bX where
 net:Option bB
 run:Option dr
def gI(b a:Int):Bool:=decide (1<=b)&&(decide (b<=1000000)&&(decide (1<=a)&&decide (a<=1000000)))
def lG(s:bX)(net a:ao):bX×ao:=
 if ia net=false then (s,[-1])
 else if 0<(hZ (net.getD 0 0) (bC net)).length then (s, -2::hZ (net.getD 0 0) (bC net))
 else if (bN a (bC net) 0).length<(bC net).length\/fq (bN a (bC net) 0)<(a.length:Nat) then (s,[-3,((bN a (bC net) 0).length:Nat)])
 else (⟨some (ak (net.getD 0 0) (bC net) (bN a (bC net) 0)),none⟩,[0])
def j8(s:bX)(rule b a bits:Int):bX×ao:=
 match s.net with
 |none=>(s,[-8])
 |some n=>if 1<rule\/64<bits\/gI b a=false then (s,[-1]) else match li n with
  |none=>(s,[-4])
  |some m=>(⟨some n,some ⟨rule,(b,a),ga bits,0,m,fc n m.aE (ga bits)⟩⟩,[0])
def lW(s:bX)(k:Int):bX×ao:=
 match s.run with
 |none=>(s,[-8])
 |some r=>if 100<k then (s,[-1]) else match s.net with
  |none=>(s,[-8])
  |some n=>(⟨some n,some (gB n k.toNat r).2⟩,[0,((gB n k.toNat r).1:Nat)])
def wO(x:Option Fr):ao:=match x with
 |none=>[-3]
 |some x=>[0,(cn x).1,(cn x).2]
def qe(s:bX)(a k:Int):ao:=
 match s.run,s.net with
 |some r,some n=>if a=4 then wO (some (iE r r.made)) else wO (quantity n r.cF.aE a k)
 |_,_=>[-8]
def pY(s:bX)(k:Int):ao:=
 match s.run,s.net with
 |some r,some n=>if k<(n.af.length:Nat)/\(n.af.getD k.toNat ae).kind=13 then [0,r.cF.states.getD (n.diodes.idxOf k) 0] else [-3]
 |_,_=>[-8]
def p8(s:bX)(k:Int):ao:=
 match s.run,s.net with
 |some r,some n=>if k<(n.af.length:Nat)/\cT (n.af.getD k.toNat ae).kind=true then
   [0,(cn (bY r.di k.toNat).1).1,(cn (bY r.di k.toNat).1).2,(cn (bY r.di k.toNat).2).1,(cn (bY r.di k.toNat).2).2] else [-3]
 |_,_=>[-8]
end Nt
namespace L2
open PySem PySem.Spec PyProof.Rows
abbrev cg:=Sum Int Str
noncomputable def p9:cg->Value->Bool
 | .inl k,v=>Value.isInt k v
 | .inr x,v=>Value.isStrOf x v
def NS(w:World):cg->Int
 | .inl k=>hashInt k
 | .inr x=>hashStr w x
theorem mG:∀{k:cg}{v:Value},p9 k v=true->(∃i a,k=Sum.inl i/\v=Value.int i a)\/(∃x a,k=Sum.inr x/\v=Value.str x a)
 | .inl i,v,h=>by obtain⟨a,e⟩:=Value.isInt_shape (k:=i) (v:=v) h;exact .inl ⟨i,a,rfl,e⟩
 | .inr x,v,h=>by obtain⟨a,e⟩:=Value.isStrOf_shape (x:=x) (v:=v) h;exact .inr ⟨x,a,rfl,e⟩
def NT(i:Int)(a:Tok):p9 (.inl i) (.int i a)=true:=by simp[p9,Value.isInt]
def NU(x:Str)(a:Tok):p9 (.inr x) (.str x a)=true:=by simp[p9,Value.isStrOf]
def NV(a b:Int):decide ((Sum.inl a:cg)=Sum.inl b)=(a==b):=by
 by_cases e:a=b
 ·subst e;simp
 ·have h:¬(Sum.inl a:cg)=Sum.inl b:=λq=>e (Sum.inl.inj q);rw[VF h];exact(W8.mpr e).symm
def NY(a b:Str):decide ((Sum.inr a:cg)=Sum.inr b)=decide (a=b):=by
 by_cases e:a=b
 ·subst e;simp
 ·have h:¬(Sum.inr a:cg)=Sum.inr b:=λq=>e (Sum.inr.inj q);rw[VF h,VF e]
def NW(a:Int)(b:Str):decide ((Sum.inl a:cg)=Sum.inr b)=false:=VF (λq=>nomatch q)
def NX(a:Str)(b:Int):decide ((Sum.inr a:cg)=Sum.inl b)=false:=VF (λq=>nomatch q)
def jZ(prog:Program)(w:World):PySem.KeyKind prog w cg where
 is:=p9
 hash:=NS w
 inj:=λv a b ha hb=>by
  rcases mG ha with ⟨i,t,rfl,rfl⟩|⟨x,t,rfl,rfl⟩
  ·rcases mG hb with ⟨j,u,rfl,e⟩|⟨y,u,rfl,e⟩
   ·injection e with e1 _;rw[e1]
   ·exact nomatch e
  ·rcases mG hb with ⟨j,u,rfl,e⟩|⟨y,u,rfl,e⟩
   ·exact nomatch e
   ·injection e with e1 _;rw[e1]
 byValue:=λk v h=>by
  rcases mG h with ⟨i,t,rfl,rfl⟩|⟨x,t,rfl,rfl⟩<;>rfl
 pyHash:=λhv h=>by
  rcases mG hv with ⟨i,t,rfl,rfl⟩|⟨x,t,rfl,rfl⟩
  ·exact wpAny_pyHash_int h
  ·exact wpAny_pyHash_str h
 eqBool:=λhu hv h=>by
  rcases mG hu with ⟨i,t,rfl,rfl⟩|⟨x,t,rfl,rfl⟩
  ·rcases mG hv with ⟨j,u,rfl,rfl⟩|⟨y,u,rfl,rfl⟩
   ·rw[NV] at h;exact wpAny_eqBool_int h
   ·rw[NW] at h;exact SeqAt.EqAt.int_str i t y u _ _ _ _ h
  ·rcases mG hv with ⟨j,u,rfl,rfl⟩|⟨y,u,rfl,rfl⟩
   ·rw[NX] at h;exact SeqAt.EqAt.str_int x t j u _ _ _ _ h
   ·rw[NY] at h;exact wpAny_eqBool_str h
 «strs»:=λk x t v h=>by
  rcases mG h with ⟨i,u,rfl,e⟩|⟨y,u,rfl,e⟩
  ·exact nomatch e
  ·injection e with e1 _
   subst e1
   cases v<;>rfl
def OC(prog:Program)(w:World)(i:Int)(a:Tok):(jZ prog w).is (.inl i) (.int i a)=true:=NT i a
def OD(prog:Program)(w:World)(x:Str)(a:Tok):(jZ prog w).is (.inr x) (.str x a)=true:=NU x a
inductive V where
 |aO|bl (b:Bool)|int (i:Int)|str (x:Str)|iN (b:Array UInt8)|uN (b:UInt64)|ref (a:Addr)|ty (n:String)
 deriving DecidableEq
abbrev b9:=Option V
abbrev aQ:=List V
abbrev cK:=List (Str×V)
def bM:V->Value->Prop
 | .aO,u=>u=Value.none
 | .bl b,u=>u=Value.bool b
 | .int i,u=>∃c,u=Value.int i c
 | .str x,u=>∃c,u=Value.str x c
 | .iN b,u=>∃c,u=Value.bytes b c
 | .uN b,u=>∃c,u=Value.float b c
 | .ref a,u=>u=Value.ref a
 | .ty n,u=>u=Value.type n
abbrev bH:aQ->bD->Prop:=Paired bM
def bH.length{xs:aQ}{us:bD}(r:bH xs us):xs.length=us.length:=VP r
theorem bH.get:∀{xs:aQ}{us:bD}{i:Nat}{x:V},bH xs us->xs[i]? =some x->∃u,us[i]? =some u/\bM x u
 |_,_,_,_,.nil,e=>by simp at e
 |_,_,0,_,.cons r _,e=>by simp at e;subst e;exact⟨_,rfl,r⟩
 |_,_,i+1,x,.cons _ t,e=>by obtain⟨u,a,b⟩:=bH.get (i:=i) (x:=x) t (by simpa using e);exact⟨u,by simpa using a,b⟩
theorem bH.set{x:V}{u:Value}(r:bM x u):∀{xs:aQ}{us:bD}(i:Nat),bH xs us->bH (xs.set i x) (us.set i u)
 |_,_,_,.nil=>.nil
 |_,_,0,.cons _ t=>.cons r t
 |_,_,i+1,.cons q t=>.cons q (bH.set r i t)
theorem bH.append:∀{xs ys:aQ}{us ws:bD},bH xs us->bH ys ws->bH (xs++ys) (us++ws)
 |_,_,_,_,.nil,s=>s
 |_,_,_,_,.cons r t,s=>.cons r (bH.append t s)
theorem bH.take:∀{xs:aQ}{us:bD}(n:Nat),bH xs us->bH (xs.take n) (us.take n)
 |_,_,0,_=>.nil
 |_,_,_+1,.nil=>.nil
 |_,_,n+1,.cons r t=>.cons r (bH.take n t)
theorem bH.drop:∀{xs:aQ}{us:bD}(n:Nat),bH xs us->bH (xs.drop n) (us.drop n)
 |_,_,0,r=>r
 |_,_,_+1,.nil=>.nil
 |_,_,n+1,.cons _ t=>bH.drop n t
def iL:b9->jN->Prop
 |some v,some u=>bM v u
 |none,none=>True
 |_,_=>False
def KV{a:Type}:List (a×V)->List (a×Value)->Prop:=Paired λ(p:a×V)(q:a×Value)=>p.1=q.1/\bM p.2 q.2
def kV:cg->V
 | .inl i=>.int i
 | .inr x=>.str x
inductive HO where
 |aq (xs:List V)
 |aN (xs:List V)
 |dK (kvs:List (cg×V))|dT (kvs:List (List cg×V))
 |set (S:Int->Bool) (n:Nat)
 |aA (C dx:Addr) (fs:List (Str×V))
 |own (x:Addr)
 |xd (fs:List (Str×V))
 |yX (f x:Addr)
 |zQ (lo hi:Int)
 |gT (o:Obj) (u:HO)
 |pi (ps:Array Value)
 |ext (φ:Heap->Prop)
abbrev Hp:=Addr->Option HO
def ai(H:Hp)(a:Addr)(o:HO):Hp:=λb=>if b=a then some o else H b
def aS{H:Hp}{a:Addr}{o:HO}:ai H a o a=some o:=by unfold ai;rw[Vh rfl]
def bA{H:Hp}{a b:Addr}{o:HO}(h:b≠a):ai H a o b=H b:=by unfold ai;rw[Vg h]
def OJ{H:Hp}{a b:Addr}{o u:HO}(h:H a=some o)(h':H b=some u)(d:o≠u):a≠b:=by intro e;subst e;rw[h] at h';exact d (Vr h')
def dI{H:Hp}{a b:Addr}{o:HO}(h:H a=some o)(h':H b=none):a≠b:=by intro e;subst e;rw[h] at h';cases h'
section
variable(P:Program)(w:World)
def ed(H:Hp)(h:Heap)(a:Addr):HO->Prop
 | .aq xs=>xs.length<=sizeLine/\∃(d:bD)(n:Nat),bH xs d/\h.get? a=some {cls:=.type "list",data:=.seq d.toArray n}
 | .aN xs=>xs.length<=sizeLine/\∃d:bD,bH xs d/\IsTup h a d.toArray
 | .dK e=>e.length<=sizeLine/\(a==sysModules)=false/\∃vs,KV e vs/\h.DictOf (jZ P w) a vs
 | .dT e=>e.length<=sizeLine/\(a==sysModules)=false/\∃xs:List (List cg×Addr×Value),
   Paired (λ(p:List cg×V)(q:List cg×Addr×Value)=>p.1=q.1/\H q.2.1=some (.aN (p.1.map kV))/\bM p.2 q.2.2) e xs/\
   ∃o j m,h.get? a=some o/\o.ExactDict/\o.data=.dict j m/\j.toList=xs.map (entryOfKey (tupleKind (jZ P w)))/\(xs.map (·.1)).Nodup
 | .set S n=>h.SetOf (intKind P w) a S n
 | .aA C g c=>H g=some (.own a)/\c.length<=1000/\g≠a/\h.get? a=some (instObj C g)/\
   ∃b,h.Ns1 g b/\(∀f,iL (c.lookup f) (b f))/\PySem.Within b (c.map (·.1))
 | .own _=>∃o,h.get? a=some o
 | .xd c=>∃b,h.Ns1 a b/\∀f,iL (c.lookup f) (b f)
 | .zQ s r=>∃t u v,h.get? a=some {cls:=.type "range",data:=.fields #[.int s t,.int r u,.int 1 v]}
 | .gT o u=>h.get? a=some o/\ed H h a u
 | .pi ps=>h.get? a=some {cls:=.none,data:=.fields ps}
 | .yX f x=>h.get? a=some (methodObj (.ref f) (.ref x))
 | .ext i=>i h/\(∃o,h.get? a=some o)/\∀k l:Heap,i k->(∀o,k.get? a=some o->l.get? a=some o)->i l
def dq(H:Hp)(h:Heap):Prop:=∀a o,H a=some o->ed P w H h a o
end
section
variable{P:Program}{w:World}{H Z:Hp}{h h':Heap}{a:Addr}{o:HO}
def ed.lt(x:ed P w H h a o):a<h.objs.size:=by
 cases o with
 |aq xs=>obtain⟨_,_,_,_,e⟩:=x;exact VD e
 |aN xs=>obtain⟨_,_,_,p⟩:=x;exact p.lt
 |dK c=>obtain⟨_,_,_,_,o,_,_,e,_⟩:=x;exact VD e
 |dT c=>obtain⟨_,_,_,_,o,_,_,e,_⟩:=x;exact VD e
 |set S n=>obtain⟨o,_,_,_,e,_⟩:=x;exact VD e
 |aA C d b=>obtain⟨_,_,_,e,_⟩:=x;exact VD e
 |own y=>obtain⟨_,e⟩:=x;exact VD e
 |xd b=>obtain⟨_,⟨_,_,_,e,_⟩,_⟩:=x;exact VD e
 |zQ i g=>obtain⟨_,_,_,e⟩:=x;exact VD e
 |gT j u=>obtain⟨e,_⟩:=x;exact VD e
 |pi ps=>exact VD (show h.get? a=some _ from x)
 |yX f y=>exact VD (show h.get? a=some _ from x)
 |ext k=>obtain⟨_,⟨_,e⟩,_⟩:=x;exact VD e
theorem Paired.yU{g β:Type}{c G:g->β->Prop}:∀{d:List g}{e:List β},Paired c d e->(∀a b,c a b->G a b)->Paired G d e
 |_,_,.nil,_=>.nil
 |_,_,.cons r t,f=>.cons (f _ _ r) (Paired.yU t f)
def ed.iZ(x:ed P w H h a o)(k:∀b u,(b=a\/H b=some (.own a))->h.get? b=some u->h'.get? b=some u)
  (E:∀b,H b=some (.own a)->Z b=some (.own a))(F:∀b xs,H b=some (.aN xs)->Z b=some (.aN xs)):ed P w Z h' a o:=by
 induction o with
 |aq xs=>obtain⟨g,m,n,r,e⟩:=x;exact⟨g,m,n,r,k _ _ (.inl rfl) e⟩
 |aN xs=>obtain⟨g,m,r,i,e,c⟩:=x;exact⟨g,m,r,i,k _ _ (.inl rfl) e,c⟩
 |dK I=>obtain⟨g,y,vs,r,i,l,j,e,c⟩:=x;exact⟨g,y,vs,r,i,l,j,k _ _ (.inl rfl) e,c⟩
 |dT I=>obtain⟨g,y,xs,r,i,l,j,e,c⟩:=x;exact⟨g,y,xs,Paired.yU r λp q g=>⟨g.1,F _ _ g.2.1,g.2.2⟩,i,l,j,k _ _ (.inl rfl) e,c⟩
 |set S n=>obtain⟨i,l,j,z,e,c⟩:=x;exact⟨i,l,j,z,k _ _ (.inl rfl) e,c⟩
 |aA C K D=>obtain⟨d,g,J,e,s,⟨t,l,j,B,c⟩,r⟩:=x;exact⟨E _ d,g,J,k _ _ (.inl rfl) e,s,⟨t,l,j,k _ _ (.inr d) B,c⟩,r⟩
 |own y=>obtain⟨i,e⟩:=x;exact⟨i,k _ _ (.inl rfl) e⟩
 |xd D=>obtain⟨s,⟨t,l,j,e,c⟩,r⟩:=x;exact⟨s,⟨t,l,j,k _ _ (.inl rfl) e,c⟩,r⟩
 |zQ M L=>obtain⟨z,u,v,e⟩:=x;exact⟨z,u,v,k _ _ (.inl rfl) e⟩
 |gT i u G=>obtain⟨e,q⟩:=x;exact⟨k _ _ (.inl rfl) e,G q⟩
 |pi ps=>have e:h.get? a=some {cls:=.none,data:=.fields ps}:=x;show h'.get? a=some {cls:=.none,data:=.fields ps};exact k a _ (.inl rfl) e
 |yX f y=>have e:h.get? a=some (methodObj (.ref f) (.ref y)):=x;show h'.get? a=some (methodObj (.ref f) (.ref y));exact k a _ (.inl rfl) e
 |ext N=>obtain⟨p,⟨o,e⟩,A⟩:=x;exact⟨A _ _ p λo q=>k _ _ (.inl rfl) q,⟨o,k _ _ (.inl rfl) e⟩,A⟩
def dq.lt(x:dq P w H h)(e:H a=some o):a<h.objs.size:=(x a o e).lt
def dq.dP(x:dq P w H h)(e:h.objs.size<=a):H a=none:=by
 cases q:H a with
 |none=>rfl
 |some u=>exact absurd (VR (x.lt q) e) (WV _)
def dq.kept(x:dq P w H h)(k:∀b u,h.get? b=some u->h'.get? b=some u):dq P w H h':=λa o e=>(x a o e).iZ (λb u _ q=>k b u q) (λ_ q=>q) λ_ _ q=>q
def dq.jt(x:dq P w H h)(k:∀b u,h.get? b=some u->h'.get? b=some u)(g:h.objs.size<=a)(new:ed P w (ai H a o) h' a o):dq P w (ai H a o) h':=λb u e=>by
 have f:=x.dP g;by_cases d:b=a
 ·subst d;rw[aS] at e;cases e;exact new
 ·rw[bA d] at e;exact(x b u e).iZ (λc v _ q=>k c v q) (λc q=>by rw[bA (dI q f)];exact q) λc xs q=>by rw[bA (dI q f)];exact q
end
def Rd(H:Hp)(a:Addr)(u:HO):Prop:=H a=some u\/∃o,H a=some (.gT o u)
def Rd.ok{P:Program}{w:World}{H:Hp}{h:Heap}{a:Addr}{u:HO}(r:Rd H a u)(x:dq P w H h):ed P w H h a u:=by
 rcases r with r|⟨o,r⟩
 ·exact x a u r
 ·obtain⟨_,q⟩:=x a _ r;exact q
def qV:Option HO->Prop
 |some (.aq _)=>True
 |some (.dK _)=>True
 |some (.dT _)=>True
 |some (.set _ _)=>True
 |some (.aA _ _ _)=>True
 |some (.ext _)=>True
 |_=>False
section
variable{P:Program}{w:World}{H:Hp}{h h':Heap}{x e:Addr}{o':HO}
def dq.eV(s:dq P w H h)(i:qV (H x))(j:e=x\/H e=some (.own x))(k:∀b u,b≠e->h.get? b=some u->h'.get? b=some u)(n:∃u,h'.get? e=some u)
  (new:ed P w (ai H x o') h' x o'):dq P w (ai H x o') h':=λb u q=>by
 have l:∀c y,H c=some (.own y)->c≠x:=λc y r a=>by subst a;rw[r] at i;exact i
 have p:∀c xs,H c=some (.aN xs)->c≠x:=λc xs r a=>by subst a;rw[r] at i;exact i
 by_cases d:b=x
 ·subst d;rw[aS] at q;cases q;exact new
 ·rw[bA d] at q;by_cases f:b=e
  ·have m:H b=some (.own x):=by
    rcases j with a|a
    ·exact absurd (f.trans a) d
    ·rw[f];exact a
   rw[q] at m;cases m;obtain⟨v,o⟩:=n;exact⟨v,by rw[f];exact o⟩
  ·refine(s b u q).iZ (λc v g r=>k c v ?_ r) (λc r=>by rw[bA (l c b r)];exact r) λc xs r=>by rw[bA (p c xs r)];exact r
   rcases g with rfl|g
   ·exact f
   ·rintro rfl;rcases j with a|a
    ·exact l c b g a
    ·rw[g] at a;cases a;exact d rfl
end
structure Un(fs ex:bL)(H Z:Hp)(h h':Heap):Prop where
 keep:∀b o,h.get? b=some o->H b=none->b∉fs->b∉ex->h'.get? b=some o
 jE:∀b o,h.get? b=some o->H b=none->b∈fs->b∉ex->∃sl,h'.get? b=some {o with slots:=sl}
 free:∀b o,h.get? b=some o->H b=none->b∉ex->Z b=none
 there:∀b o,h.get? b=some o->b∉ex->∃o',h'.get? b=some o'
 nY:∀b xs,H b=some (.aN xs)->Z b=some (.aN xs)
 mx:∀b o u,H b=some (.gT o u)->Z b=some (.gT o u)
 nX:∀b ps,H b=some (.pi ps)->∃more,Z b=some (.pi (ps++more))
section
variable{fs h_ ex TY:bL}{H H1 H2:Hp}{h h1 h2 h':Heap}{a x e:Addr}{o:HO}
def Un.any(u:Un fs ex H H1 h h1){b:Addr}{a:Obj}(q:h.get? b=some a)(n:H b=none)(d:b∉ex):∃e,h1.get? b=some {a with slots:=e}:=by
 by_cases c:b∈fs
 ·exact u.jE b a q n c d
 ·exact⟨a.slots,u.keep b a q n c d⟩
def Un.kept(k:∀b u,h.get? b=some u->h'.get? b=some u):Un fs ex H H h h':=
 ⟨λb a q _ _ _=>k b a q,λb a q _ _ _=>⟨a.slots,k b a q⟩,λ_ _ _ n _=>n,λb a q _=>⟨a,k b a q⟩,λ_ _ q=>q,λ_ _ _ q=>q,λ_ ps q=>⟨#[],by rw[q];simp⟩⟩
def Un.refl:Un fs ex H H h h:=Un.kept λ_ _ q=>q
def Un.jt(k:∀b u,h.get? b=some u->h'.get? b=some u)(hp:h.objs.size<=a)(hn:H a=none):Un fs ex H (ai H a o) h h' where
 keep:=λb u q _ _ _=>k b u q
 jE:=λb u q _ _ _=>⟨u.slots,k b u q⟩
 free:=λb u q n _=>by rw[bA (Wc (VR (VD q) hp))];exact n
 there:=λb u q _=>⟨u,k b u q⟩
 nY:=λb xs q=>by rw[bA (dI q hn)];exact q
 mx:=λb u xs q=>by rw[bA (dI q hn)];exact q
 nX:=λb ps q=>⟨#[],by rw[bA (dI q hn),q];simp⟩
def Un.eV(c:qV (H x))(j:e=x\/H e=some (.own x))(k:∀b u,b≠e->h.get? b=some u->h'.get? b=some u)(l:∃u,h'.get? e=some u):Un fs ex H (ai H x o) h h':=by
 have i:∀b,H b=none->b≠x:=λb n a=>by subst a;rw[n] at c;exact c
 have f:∀b,H b=none->b≠e:=λb n a=>by
  subst a;rcases j with r|r
  ·exact i b n r
  ·rw[n] at r;cases r
 have d:∀b u,H b=some u->¬qV (some u)->b≠x:=λb u q m a=>by subst a;rw[q] at c;exact m c
 refine⟨λb u q n _ _=>k b u (f b n) q,λb u q n _ _=>⟨u.slots,k b u (f b n) q⟩,λb u q n _=>by rw[bA (i b n)];exact n,λb u q _=>?_,
  λb xs q=>by rw[bA (d b _ q λa=>a)];exact q,λb u xs q=>by rw[bA (d b _ q λa=>a)];exact q,λb ps q=>⟨#[],by rw[bA (d b _ q λa=>a),q];simp⟩⟩
 by_cases g:b=e
 ·subst g;exact l
 ·exact⟨u,k b u g q⟩
end
noncomputable def wP(h:Heap)(H:Hp):bL:=(List.range h.objs.size).filter λa=>(H a).isSome
def lN(h:Heap)(H:Hp):Heap:=hideAll h (wP h H)
def ND(h:Heap)(H:Hp):(lN h H).objs.size=h.objs.size:=hideAll_size _ _
def NC{h:Heap}{H:Hp}{b:Addr}{o:Obj}(e:h.get? b=some o)(n:H b=none):(lN h H).get? b=some o:=
 hideAll_get _ e λa=>by have q:(H b).isSome=true:=(List.mem_filter.mp a).2;rw[n] at q;simp at q
def O2{h:Heap}{H:Hp}{b:Addr}{o:Obj}(e:(lN h H).get? b=some o):h.get? b=some o/\H b=none:=by
 have a:h.get? b=some o:=of_hideAll (wP h H) e;refine⟨a,?_⟩;cases q:H b with
 |none=>rfl
 |some x=>have c:b∈wP h H:=List.mem_filter.mpr ⟨VB.mpr (VD a),by simp[q]⟩;have d:(lN h H).get? b=none:=hideAll_none (wP h H) c;rw[d] at e;cases e
structure Mod(K:Frag)(mg:df)(ah:Heap):Prop where
 sh:K.In ah
 mD:ah.Ns mainGlobals mg
 pM:∃mb,ah.Ns builtinsNs mb/\∀x:Str,x≠"__name__"->mb x=bootBuiltins x
 nolimit:ah.NoLimit
 seer:ah.NoSeer
structure Cx where
 prog:Program
 w:World
 K:Frag
 mg:Str->jN
 ah:Heap
 A:Around
 N:cR
 gN:Shared
 qS:Hp
 ag:Env
 aH:List Env
 g6:List Env
 ex:bL
 fn:Str->Bool
 ki:Bool
 pn:bK
 xe:Value->Shared->Prop
noncomputable def k7(l:List Env):bL:=l.filterMap (·.frame)
abbrev Cx.fs(X:Cx):bL:=k7 X.aH
def pJ(a:Scope)(x:Str):Prop:=a.names.lookup x=some .local\/a.names.lookup x=some .cell\/a.names.lookup x=some .free
def ol(a:Scope)(x:Str):Prop:=a.names.lookup x=some .local\/a.names.lookup x=some .cell
def Jt(a:Env)(h:Heap)(m:df)(x:Str)(u:Value):Prop:=
 (a.kindOf x=some .local/\m x=some u)\/((a.kindOf x=some .cell\/a.kindOf x=some .free)/\∃c,a.cells.lookup x=some c/\h.IsCell c (some u))
structure Cx.Ok(X:Cx):Prop where
 mod:Mod X.K X.mg X.ah
 kind:X.ag.scope.kind=.function
 mD:X.ag.globals=mainGlobals
 pM:X.ag.builtins=builtinsNs
 above:X.gN.heap.objs.size<=X.ag.locals
 inj:∀x y c,X.ag.cells.lookup x=some c->X.ag.cells.lookup y=some c->x=y
 has:∀x,(X.ag.kindOf x=some .cell\/X.ag.kindOf x=some .free)->∃c,X.ag.cells.lookup x=some c
 rE:∀x c,X.fn x=true->X.ag.cells.lookup x=some c->X.gN.heap.objs.size<=c
 hd:X.ki=true->X.A.handled=none
 frames:X.A.frames=some X.g6
 wI:X.g6=X.aH\/(X.g6=X.ag::X.aH/\X.ag.frame=some X.ag.locals)
 uK:∀b∈X.ex,b≠X.ag.locals/\∀x c,X.ag.cells.lookup x=some c->c≠b
 bs:∀b o,X.ah.get? b=some o->X.gN.heap.get? b=some o/\X.qS b=none
 mj:X.ah.objs.size<=X.gN.heap.objs.size
 sx:∀b o,X.ah.get? b=some o->b∉X.ex
 rQ:∀b∈X.ex,b∉X.fs
 ku:X.gN.heap.FunFrames X.ah X.aH
 oH:∀b∈X.fs,X.qS b=none
structure Inv(X:Cx)(aa:bK)(U:List b9)(H:Hp)(s:Shared):Prop where
 ok:X.Ok
 os:s.os=X.gN.os
 gi:AllBare s.gens
 ah:Un X.fs X.ex X.qS H X.gN.heap s.heap
 iS:∃m,s.heap.Ns X.ag.locals m/\∀(i:Nat)(x:Str)(v:V),X.N[i]? =some x->U[i]? =some (some v)->pJ X.ag.scope x->∃u,bM v u/\Jt X.ag s.heap m x u
 cell:∀x c,X.ag.cells.lookup x=some c->∃v,s.heap.IsCell c v
 free:H X.ag.locals=none
 k6:∀x c,X.ag.cells.lookup x=some c->H c=none
 j3:∀p∈X.pn++aa,s.heap.get? p.1=some p.2/\H p.1=none/\p.1≠X.ag.locals/\p.1∉X.fs/\∀v,p.2.data≠ .cell v
 aK:dq X.prog X.w H s.heap
 aC:U.length=X.N.length
section
variable{X:Cx}{aa:bK}{U:List b9}{H Z:Hp}{s:Shared}{h':Heap}
def Cx.Ok.OU(c:X.Ok){b:Addr}{o:Obj}(e:X.ah.get? b=some o):b∉X.fs:=λa=>by have:=(c.ku.mem a).1;rw[e] at this;cases this
def Inv.bs(a:Inv X aa U H s):∀b o,X.ah.get? b=some o->s.heap.get? b=some o/\H b=none:=λb o e=>⟨a.ah.keep b o (a.ok.bs b o e).1 (a.ok.bs b o e).2 (a.ok.OU e) (a.ok.sx b o e),a.ah.free b o (a.ok.bs b o e).1 (a.ok.bs b o e).2 (a.ok.sx b o e)⟩
def Inv.bk(a:Inv X aa U H s):∀b o,X.ah.get? b=some o->s.heap.get? b=some o:=λb o e=>(a.bs b o e).1
def Inv.mod(a:Inv X aa U H s):Mod X.K X.mg X.ah:=a.ok.mod
def Inv.jd(a:Inv X aa U H s):X.K.In s.heap:=a.ok.mod.sh.keeps a.bk
def Inv.nolimit(a:Inv X aa U H s):s.heap.NoLimit:=a.ok.mod.nolimit.keeps a.bk
def Inv.lt(a:Inv X aa U H s):X.ag.locals<s.heap.objs.size:=let ⟨_,b,_⟩:=a.iS;b.lt
def Inv.sz(a:Inv X aa U H s):X.gN.heap.objs.size<=s.heap.objs.size:=Vy a.ok.above (WP a.lt)
def Inv.OW(b:Inv X aa U H s){a:Addr}(h:s.heap.objs.size<=a):a∉X.fs:=λc=>by obtain⟨_,o,d,_⟩:=b.ok.ku.mem c;exact absurd (VR (VD d) (Vy b.sz h)) (WV _)
def Inv.oz(a:Inv X aa U H s):∀x c,X.ag.cells.lookup x=some c->c≠X.ag.locals:=λx c e h=>by obtain⟨v,o,d,b⟩:=a.cell x c e;obtain⟨m,⟨o',j,i,g,f,_⟩,_⟩:=a.iS;rw[h,g] at d;cases d;rw[f] at b;cases b
def Inv.ku(a:Inv X aa U H s):s.heap.FunFrames X.ah X.aH:=by
 have h:∀(l:List Env),(∀b∈k7 l,b∈X.fs)->X.gN.heap.FunFrames X.ah l->s.heap.FunFrames X.ah l:=by
  intro l;induction l with
  |nil=>intro _ _;trivial
  |cons u r q=>intro g k;obtain⟨j,⟨L,o,f,m,n,i⟩,p⟩:=k;have c:L∈X.fs:=g L (by unfold k7;rw[Xr,f];exact VY);obtain⟨v,e⟩:=a.ah.jE L o n (a.ok.oH L c) c λt=>a.ok.rQ L t c;exact⟨j,⟨L,_,f,m,e,i⟩,q (λb d=>g b (by unfold k7;rw[Xr,f];exact VI _ d)) p⟩
 exact h X.aH (λ_ d=>d) a.ok.ku
def Inv.g6(a:Inv X aa U H s):s.heap.FunFrames X.ah X.g6:=by
 rcases a.ok.wI with e|⟨e,b⟩
 ·rw[e];exact a.ku
 ·rw[e];obtain⟨m,c,_⟩:=a.iS;refine .cons (by rw[a.ok.kind];decide) b c ?_ a.ku;exact Heap.get?_none_of_le (Vy a.ok.mj a.ok.above)
def Inv.AD(c:Inv X aa U H s):∀b∈k7 X.g6,b∈X.ag.locals::X.fs:=λb a=>by
 rcases c.ok.wI with e|⟨e,d⟩
 ·rw[e] at a;exact VI _ a
 ·rw[e] at a;unfold k7 at a;rw[Xr,d] at a;exact a
def Inv.Ix(a:Inv X aa U H s):∀b∈k7 X.g6,H b=none:=λb c=>by
 rcases Vo.mp (a.AD b c) with e|c
 ·rw[e];exact a.free
 ·obtain⟨_,o,d,_⟩:=a.ok.ku.mem c;exact a.ah.free b o d (a.ok.oH b c) λf=>a.ok.rQ b f c
def Inv.step{g':Array GenState}{t':Nat}{d':Drawn}{ch:bL}(a:Inv X aa U H s)
  (z:∀b∈ch,(b∈X.ex\/X.gN.heap.objs.size<=b)/\b≠X.ag.locals/\(∀x c,X.ag.cells.lookup x=some c->c≠b)/\∀p∈X.pn++aa,p.1≠b)
  (E:∀b o,b≠X.ag.locals->b∉X.fs->b∉ch->s.heap.get? b=some o->H b=none->h'.get? b=some o)
  (N:∀b o,b≠X.ag.locals->b∈X.fs->b∉ch->s.heap.get? b=some o->H b=none->∃F,h'.get? b=some {o with slots:=F})(B:∀b o,b∉ch->s.heap.get? b=some o->H b=none->Z b=none)
  (ae:∀b o,b∉ch->s.heap.get? b=some o->∃o',h'.get? b=some o')
  (af:∀b xs,H b=some (.aN xs)->Z b=some (.aN xs))(P:∀b o u,H b=some (.gT o u)->Z b=some (.gT o u))(ad:∀b ps,H b=some (.pi ps)->∃Y,Z b=some (.pi (ps++Y)))
  (ab:∀m,s.heap.Ns X.ag.locals m->h'.Ns X.ag.locals m)(T:dq X.prog X.w Z h')(Q:AllBare g'):
  Inv X aa U Z {s with heap:=h',gens:=g',drawn:=d',toks:=t'}:=by
 have L:∀b o,X.gN.heap.get? b=some o->b≠X.ag.locals:=λb o e=>Wc (VR (VD e) a.ok.above);have C:∀b o,X.gN.heap.get? b=some o->b∉X.ex->b∉ch:=λb o e f j=>by
  rcases(z b j).1 with g|g
  ·exact f g
  ·exact absurd (VR (VD e) g) (WV _)
 have G:∀x c,X.ag.cells.lookup x=some c->∀v,s.heap.IsCell c v->h'.IsCell c v:=λx c e v ⟨o,t,D⟩=>by
  have A:c∉ch:=λg=>(z c g).2.2.1 x c e rfl;by_cases I:c∈X.fs
  ·obtain⟨F,q⟩:=N c o (a.oz x c e) I A t (a.k6 x c e);exact⟨_,q,D⟩
  ·exact⟨o,E c o (a.oz x c e) I A t (a.k6 x c e),D⟩
 refine⟨a.ok,a.os,Q,⟨λb o e n j f=>?_,λb o e n j f=>?_,λb o e n f=>?_,λb o e f=>?_,λb xs e=>af b xs (a.ah.nY b xs e),λb o xs e=>P b o xs (a.ah.mx b o xs e),λb ps e=>?_⟩,?_,λx c e=>?_,?_,λx c e=>?_,λp J=>?_,T,a.aC⟩
 ·exact E b o (L b o e) j (C b o e f) (a.ah.keep b o e n j f) (a.ah.free b o e n f)
 ·obtain⟨F,h⟩:=a.ah.jE b o e n j f;obtain⟨ac,y⟩:=N b _ (L b o e) j (C b o e f) h (a.ah.free b o e n f);exact⟨ac,y⟩
 ·obtain⟨o',h⟩:=a.ah.there b o e f;exact B b o' (C b o e f) h (a.ah.free b o e n f)
 ·obtain⟨o',h⟩:=a.ah.there b o e f;exact ae b o' (C b o e f) h
 ·obtain⟨V,h⟩:=a.ah.nX b ps e;obtain⟨W,y⟩:=ad b _ h;exact⟨V++W,by rw[y,Array.append_assoc]⟩
 ·obtain⟨m,S,R⟩:=a.iS;refine⟨m,ab m S,λi x v h y O=>?_⟩;obtain⟨u,r,l⟩:=R i x v h y O;refine⟨u,r,?_⟩;rcases l with l|⟨k,c,e,g⟩
  ·exact .inl l
  ·exact .inr ⟨k,c,e,G x c e _ g⟩
 ·obtain⟨v,g⟩:=a.cell x c e;exact⟨v,G x c e v g⟩
 ·obtain⟨m,⟨o,_,_,t,_⟩,_⟩:=a.iS;exact B _ o (λg=>(z _ g).2.1 rfl) t a.free
 ·obtain⟨v,o,t,D⟩:=a.cell x c e;exact B c o (λg=>(z c g).2.2.1 x c e rfl) t (a.k6 x c e)
 ·obtain⟨e,n,K,M,d⟩:=a.j3 p J;have A:p.1∉ch:=λg=>(z p.1 g).2.2.2 p J rfl;exact⟨E p.1 p.2 K M A e n,B p.1 p.2 A e n,K,M,d⟩
def Inv.un{t':Nat}(a:Inv X aa U H s)(u:Un X.fs [] H Z s.heap h')(k:dq X.prog X.w Z h'):Inv X aa U Z {s with heap:=h',toks:=t'}:=by
 obtain⟨m,⟨o,q,p,d,r⟩,_⟩:=id a.iS;obtain⟨v,i⟩:=u.any d a.free (by simp)
 exact a.step (g':=s.gens) (d':=s.drawn) (ch:=[]) (λ_ l=>nomatch l) (λb o _ c _ e n=>u.keep b o e n c (by simp)) (λb o _ c _ e n=>u.jE b o e n c (by simp)) (λb o _ e n=>u.free b o e n (by simp)) (λb o _ e=>u.there b o e (by simp)) u.nY u.mx u.nX (λt j=>by obtain⟨o',h,g,f,r'⟩:=j;rw[d] at f;cases f;exact⟨_,h,g,i,r'⟩) k a.gi
def Inv.call{g':Array GenState}{t':Nat}{d':Drawn}{ch:bL}(d:Inv X aa U H s)(u:Un (k7 X.g6) ch H Z s.heap h')(y:dq X.prog X.w Z h')(t:AllBare g')
  (h:∀b∈ch,(b∈X.ex\/X.gN.heap.objs.size<=b)/\b≠X.ag.locals/\(∀x c,X.ag.cells.lookup x=some c->c≠b)/\∀p∈X.pn++aa,p.1≠b):
  Inv X aa U Z {s with heap:=h',gens:=g',drawn:=d',toks:=t'}:=by
 obtain⟨m,⟨o,A,z,i,r⟩,_⟩:=id d.iS;obtain⟨C,f⟩:=u.any i d.free λg=>(h _ g).2.1 rfl;exact d.step (ch:=ch) h (λb o f q a e n=>u.keep b o e n (λg=>(Vo.mp (d.AD b g)).elim f q) a) (λb o _ _ a e n=>u.any e n a) (λb o a e n=>u.free b o e n a) (λb o a e=>u.there b o e a) u.nY u.mx u.nX (λB v=>by obtain⟨o',l,k,j,r'⟩:=v;rw[i] at j;cases j;exact⟨_,l,k,f,r'⟩) y t
def Inv.lB{t':Nat}{d:Addr}(g:Inv X aa U H s)(k:∀b o,b≠d->s.heap.get? b=some o->h'.get? b=some o)(B:H d=none)(h:d≠X.ag.locals)
  (t:d∈X.ex\/X.gN.heap.objs.size<=d)(w:∀x c,X.ag.cells.lookup x=some c->c≠d)(y:∀p∈X.pn++aa,p.1≠d):Inv X aa U H {s with heap:=h',toks:=t'}:=by
 have i:∀b u,H b=some u->b≠d:=λb u e a=>by rw[a,B] at e;cases e
 refine g.step (g':=s.gens) (d':=s.drawn) (ch:=[d]) (λb z=>?_) (λb o _ _ f e _=>k b o (λa=>f (by simp[a])) e) (λb o _ _ f e _=>⟨o.slots,k b o (λa=>f (by simp[a])) e⟩) (λ_ _ _ _ n=>n)
  (λb o f e=>⟨o,k b o (λa=>f (by simp[a])) e⟩) (λ_ _ e=>e) (λ_ _ _ e=>e) (λb ps e=>⟨#[],by rw[e];simp⟩) (λm A=>?_) (λb u e=>?_) g.gi
 ·have e:b=d:=by simpa using z
  subst e;exact⟨t,h,w,y⟩
 ·obtain⟨o,l,j,C,r⟩:=A;exact⟨o,l,j,k _ o (Ne.symm h) C,r⟩
 ·refine(g.aK b u e).iZ (λc v f q=>k c v ?_ q) (λ_ q=>q) λ_ _ q=>q;rcases f with a|a
  ·rw[a];exact i b u e
  ·exact i c _ a
def Inv.i6(a:Inv X aa U H s)(b:Nat):Inv X aa U H {s with toks:=b}:=a.un (h':=s.heap) (t':=b) Un.refl a.aK
def Inv.kept{t':Nat}(a:Inv X aa U H s)(k:∀b u,s.heap.get? b=some u->h'.get? b=some u):Inv X aa U H {s with heap:=h',toks:=t'}:=a.un (Un.kept k) (a.aK.kept k)
def Inv.jt{a:Addr}{o:HO}{t':Nat}(c:Inv X aa U H s)(k:∀b u,s.heap.get? b=some u->h'.get? b=some u)(d:s.heap.objs.size<=a)(new:ed X.prog X.w (ai H a o) h' a o):
  Inv X aa U (ai H a o) {s with heap:=h',toks:=t'}:=c.un (Un.jt k d (c.aK.dP d)) (c.aK.jt k d new)
def Inv.eV{x e:Addr}{o:HO}{t':Nat}(a:Inv X aa U H s)(f:qV (H x))(c:e=x\/H e=some (.own x))(k:∀b u,b≠e->s.heap.get? b=some u->h'.get? b=some u)(d:∃u,h'.get? e=some u)
  (new:ed X.prog X.w (ai H x o) h' x o):Inv X aa U (ai H x o) {s with heap:=h',toks:=t'}:=a.un (Un.eV f c k d) (a.aK.eV f c k d new)
def Inv.TM{b:List b9}(a:Inv X aa U H s)(f:b.length=U.length)(w:∀(i:Nat) v,b[i]? =some (some v)->U[i]? =some (some v)):Inv X aa b H s:=
 ⟨a.ok,a.os,a.gi,a.ah,let ⟨m,h,g⟩:=a.iS;⟨m,h,λi x v c d e=>g i x v c (w i v d) e⟩,a.cell,a.free,a.k6,a.j3,a.aK,f.trans a.aC⟩
def Inv.E6{b:bK}(a:Inv X aa U H s)(h:∀p∈b,s.heap.get? p.1=some p.2/\H p.1=none/\p.1≠X.ag.locals/\p.1∉X.fs/\∀v,p.2.data≠ .cell v):Inv X b U H s:=
 ⟨a.ok,a.os,a.gi,a.ah,a.iS,a.cell,a.free,a.k6,λp c=>(VQ.mp c).elim (λd=>a.j3 p (List.mem_append_left _ d)) (h p),a.aK,a.aC⟩
def zb{N:cR}(e:N.Nodup){i j:Nat}{x:Str}(a:N[i]? =some x)(b:N[j]? =some x):i=j:=by obtain⟨f,c⟩:=Vj.mp a;obtain⟨g,d⟩:=Vj.mp b;exact(List.getElem_inj e).mp (c.trans d.symm)
def Iy{M:Model}{A:Around}{E:ci}{i:Nat}{x:Str}{v:V}{u:Value}{Q:Unit->Shared->Prop}(f:Inv X aa U H s)(ae:X.N.Nodup)(I:X.N[i]? =some x)(z:ol X.ag.scope x)(r:bM v u)
  (h:∀Y,Inv X aa (U.set i (some v)) H Y->(∃a,Heap.SameBut a s.heap Y.heap/\(a=X.ag.locals\/X.ag.cells.lookup x=some a))->Q () Y)(ar:X.fn x=true\/X.ag.scope.names.lookup x=some .local:=by first|exact .inl rfl|exact .inr rfl|assumption):wpAny M A (storeName X.ag x u) Q E s:=by
 obtain⟨m,S,al⟩:=id f.iS;have aq:(X.ag.scope.kind==.class||(X.ag.scope.kind==.module&&X.ag.locals !=X.ag.globals))=false:=by rw[f.ok.kind];rfl
 have ak:i<U.length:=by rw[f.aC];exact(Vj.mp I).1
 have O:=f.oz;have ao:∀{a:Addr}{h':Heap},(∃o,s.heap.get? a=some o/\H a=none)->Heap.SameBut a s.heap h'->dq X.prog X.w H h':=λ{a h'} ap g b ax e=>by
  obtain⟨_,_,aj⟩:=ap;refine(f.aK b ax e).iZ (λc L t q=>(g.2 c ?_).trans q) (λ_ q=>q) λ_ _ q=>q;rintro rfl;rcases t with rfl|t
  ·rw[aj] at e;cases e
  ·rw[aj] at t;cases t
 rcases z with D|D
 ·refine wpAny_storeName_local D S (λh' as g=>?_) aq;obtain⟨aw,_,_,au,_⟩:=id S;refine h _ ⟨f.ok,f.os,f.gi,⟨λb o e n F z=>?_,λb o e n F z=>?_,f.ah.free,λb o e z=>?_,f.ah.nY,f.ah.mx,f.ah.nX⟩,⟨_,as,λj y ad l C P=>?_⟩,λy c e=>?_,f.free,f.k6,λp T=>?_,ao ⟨aw,au,f.free⟩ g,by simpa using f.aC⟩ ⟨_,g,.inl rfl⟩
  ·exact(g.2 b (Wc (VR (VD e) f.ok.above))).trans (f.ah.keep b o e n F z)
  ·obtain⟨ab,l⟩:=f.ah.jE b o e n F z;exact⟨ab,(g.2 b (Wc (VR (VD e) f.ok.above))).trans l⟩
  ·obtain⟨o',l⟩:=f.ah.there b o e z;exact⟨o',(g.2 b (Wc (VR (VD e) f.ok.above))).trans l⟩
  ·by_cases G:j=i
   ·subst G;rw[I] at l;cases l;rw[Wq ak] at C;cases C;exact⟨u,r,.inl ⟨D,by simp⟩⟩
   ·rw[Ww (Ne.symm G)] at C;obtain⟨ac,r',q⟩:=al j y ad l C P;refine⟨ac,r',?_⟩;rcases q with ⟨k,e⟩|⟨k,c,e,B⟩
    ·refine .inl ⟨k,?_⟩;have:y≠x:=λe=>G (zb ae l (e▸I));simp[this,e]
    ·exact .inr ⟨k,c,e,B.sameBut g (O y c e)⟩
  ·obtain⟨L,B⟩:=f.cell y c e;exact⟨L,B.sameBut g (O y c e)⟩
  ·obtain⟨e,n,K,W,d⟩:=f.j3 p T;exact⟨(g.2 p.1 K).trans e,n,K,W,d⟩
 ·have R:X.fn x=true:=by
   rcases ar with B|B
   ·exact B
   ·rw[B] at D;cases D
  obtain⟨c,t⟩:=f.ok.has x (.inl D);obtain⟨L,B⟩:=f.cell x c t;refine wpAny_storeName_cell f.ok.kind D t B (λh' af g=>?_);obtain⟨an,am,av⟩:=id B;refine h {s with heap:=h'} ⟨f.ok,f.os,f.gi,⟨λb o e n F z=>?_,λb o e n F z=>?_,f.ah.free,λb o e z=>?_,f.ah.nY,f.ah.mx,f.ah.nX⟩,⟨m,S.sameBut g (Ne.symm (O x c t)),λj y ad l C P=>?_⟩,λy J e=>?_,f.free,f.k6,λp T=>?_,ao ⟨an,am,f.k6 x c t⟩ g,by simpa using f.aC⟩ ⟨c,g,.inr t⟩
  ·exact(g.2 b (Wc (VR (VD e) (f.ok.rE x c R t)))).trans (f.ah.keep b o e n F z)
  ·obtain⟨ab,l⟩:=f.ah.jE b o e n F z;exact⟨ab,(g.2 b (Wc (VR (VD e) (f.ok.rE x c R t)))).trans l⟩
  ·obtain⟨o',l⟩:=f.ah.there b o e z;exact⟨o',(g.2 b (Wc (VR (VD e) (f.ok.rE x c R t)))).trans l⟩
  ·by_cases G:j=i
   ·subst G;rw[I] at l;cases l;rw[Wq ak] at C;cases C;exact⟨u,r,.inr ⟨.inl D,c,t,af⟩⟩
   ·rw[Ww (Ne.symm G)] at C;obtain⟨ac,r',q⟩:=al j y ad l C P;refine⟨ac,r',?_⟩;rcases q with q|⟨k,J,e,aA⟩
    ·exact .inl q
    ·refine .inr ⟨k,J,e,aA.sameBut g ?_⟩;rintro rfl;exact G (zb ae l (f.ok.inj _ _ _ e t▸I))
  ·by_cases ai:J=c
   ·subst ai;exact⟨_,af⟩
   ·obtain⟨az,aB⟩:=f.cell y J e;exact⟨az,aB.sameBut g ai⟩
  ·obtain⟨e,n,K,W,d⟩:=f.j3 p T;refine⟨(g.2 p.1 ?_).trans e,n,K,W,d⟩;intro q;rw[q,am] at e;have ay:an=p.2:=Vr e;exact d L (by rw[<-ay];exact av)
def AE{M:Model}{A:Around}{E:ci}{i:Nat}{x:Str}{v:V}{u:Value}{Q:Unit->Shared->Prop}(b:Inv X aa U H s)(d:X.N.Nodup)(f:X.N[i]? =some x)(g:ol X.ag.scope x)(r:bM v u)
  (h:∀a,Inv X aa (U.set i (some v)) H a->Q () a)(e:X.fn x=true\/X.ag.scope.names.lookup x=some .local:=by first|exact .inl rfl|exact .inr rfl|assumption):wpAny M A (storeName X.ag x u) Q E s:=
 Iy b d f g r (λa c _=>h a c) e
def Inv.Km{a:Shared}{ch:bL}(d:Inv X aa U H s)(h:a.os=s.os)(u:Un (k7 X.g6) ch H Z s.heap a.heap)(i:dq X.prog X.w Z a.heap)(g:AllBare a.gens)
  (f:∀b∈ch,(b∈X.ex\/X.gN.heap.objs.size<=b)/\b≠X.ag.locals/\(∀x c,X.ag.cells.lookup x=some c->c≠b)/\∀p∈X.pn++aa,p.1≠b):Inv X aa U Z a:=by
 obtain⟨h',g',d',t',o'⟩:=a;have e:o'=s.os:=h;subst e;exact d.call (g':=g') (t':=t') (d':=d') u i g f
end
abbrev XK:=Value->Option Addr->Hp->Prop
abbrev St:=List b9
abbrev VK:=V->Hp->Prop
abbrev TE:=St->Hp->VK->Prop
abbrev TT:=St->Hp->(Bool->Hp->Prop)->Prop
abbrev TA:=St->Hp->(aQ->Hp->Prop)->Prop
structure iI where
 nx:St->Hp->Prop
 rt:VK
 bk:St->Hp->Prop:=λ_ _=>False
 ct:St->Hp->Prop:=λ_ _=>False
abbrev TS:=iI->St->Hp->Prop
def EP(X:Cx)(aa:bK)(c:St)(Q:VK)(u:Value)(b:Shared):Prop:=∃v a,Inv X aa c a b/\bM v u/\Q v a
def TP(X:Cx)(aa:bK)(d:St)(Q:Bool->Hp->Prop)(b:Bool)(c:Shared):Prop:=∃a,Inv X aa d a c/\Q b a
def AP(X:Cx)(aa:bK)(c:St)(Q:aQ->Hp->Prop)(us:bD)(b:Shared):Prop:=∃vs a,Inv X aa c a b/\bH vs us/\Q vs a
def SP(X:Cx)(aa:bK)(c:iI)(f:Flow)(d:Shared):Prop:=
 match f with
 | .next=>∃b a,Inv X aa b a d/\c.nx b a
 | .brk=>∃b a,Inv X aa b a d/\c.bk b a
 | .cont=>∃b a,Inv X aa b a d/\c.ct b a
 | .ret u=>∃v b a,Inv X aa b a d/\bM v u/\c.rt v a
def PE(X:Cx)(e:Expr)(b:TE):Prop:=
 ∀(aa:bK)(s:Shared)(a:St)(H:Hp)(Q:VK),Inv X aa a H s->b a H Q->wpAny (model X.prog X.w) X.A (eval e X.ag) (EP X aa a Q) X.xe s
def PT(X:Cx)(e:Expr)(b:TT):Prop:=
 ∀(aa:bK)(s:Shared)(a:St)(H:Hp)(Q:Bool->Hp->Prop),Inv X aa a H s->b a H Q->wpAny (model X.prog X.w) X.A (isTrue e X.ag (eval e X.ag)) (TP X aa a Q) X.xe s
def PW(X:Cx)(e:Expr)(b:TT):Prop:=
 ∀(c:Sem Value)(aa:bK)(s:Shared)(a:St)(H:Hp)(Q:Bool->Hp->Prop),Inv X aa a H s->b a H Q->wpAny (model X.prog X.w) X.A (isTrue e X.ag c) (TP X aa a Q) X.xe s
def PW.pt{X:Cx}{e:Expr}{a:TT}(h:PW X e a):PT X e a:=h _
def PA(X:Cx)(b:en)(d:TA):Prop:=
 ∀(c:Pos)(aa:bK)(s:Shared)(a:St)(H:Hp)(Q:aQ->Hp->Prop),Inv X aa a H s->d a H Q->wpAny (model X.prog X.w) X.A (spliced (backTo c (starEach b X.ag))) (AP X aa a Q) X.xe s
def PS(X:Cx)(c:Stmt)(d:TS):Prop:=
 ∀(aa:bK)(s:Shared)(b:St)(H:Hp)(a:iI),Inv X aa b H s->d a b H->wpAny (model X.prog X.w) X.A (exec c X.ag) (SP X aa a) X.xe s
def iK(X:Cx)(c:List Stmt)(d:TS):Prop:=
 ∀(aa:bK)(s:Shared)(b:St)(H:Hp)(a:iI),Inv X aa b H s->d a b H->wpAny (model X.prog X.w) X.A (execs c X.ag) (SP X aa a) X.xe s
def bu{d:Type}{c:Sem d}{Q b:d->Shared->Prop}{M:Model}{A:Around}{E:ci}{s:Shared}(h:wpAny M A c Q E s)(e:∀a s,Q a s->b a s):wpAny M A c b E s:=W3 h e λ_ _ x=>x
section
variable{X:Cx}
def cQ(i:Nat):TE:=λa H Q=>match a[i]? with
 |some (some v)=>Q v H
 |_=>False
def Jl{i:Nat}{a:L2.St}{H:Hp}{Q:VK}(h:cQ i a H Q):∃v,a[i]? =some (some v)/\Q v H:=by
 unfold cQ at h;split at h
 ·exact⟨_,by assumption,h⟩
 ·exact h.elim
def tC(v:V):TE:=λ_ H Q=>Q v H
def QG{i:Nat}{x:Str}{w:Pos}(k:X.N[i]? =some x)(t:pJ X.ag.scope x)(f:(x==("__debug__":Str))=false:=by decide)(n:(x==("__classdict__":Str))=false:=by decide):PE X (.Name x w) (cQ i):=by
 intro aa s y H Q b h;obtain⟨v,e,h⟩:=Jl h;obtain⟨m,q,o⟩:=b.iS;obtain⟨u,r,l⟩:=o i x v k e t;have d:EP X aa y Q u s:=⟨v,H,b,r,h⟩
 rcases l with ⟨a,p⟩|⟨a,c,g,j⟩
 ·exact wpAny_Name (wpAny_loadName_local b.ok.kind a q p d) f
 ·rcases a with a|a
  ·exact wpAny_Name (wpAny_loadName_cell b.ok.kind a g j d) f
  ·exact wpAny_Name (wpAny_loadName_free b.ok.kind a g j d n) f
def az{i j b}:PE X (.Constant (.int i) j b) (tC (.int i)):=λ_ _ _ H _ a h=>wpAny_Constant_int ⟨.int i,H,a.i6 _,⟨_,rfl⟩,h⟩
def ic{b j c}:PE X (.Constant (.bool b) j c) (tC (.bl b)):=λ_ _ _ H _ a h=>Constant_bool ⟨.bl b,H,a,rfl,h⟩
def d7{j b}:PE X (.Constant .none j b) (tC .aO):=λ_ _ _ H _ a h=>Constant_none ⟨.aO,H,a,rfl,h⟩
def Gl(X:Cx)(x:Str):Prop:=X.ag.kindOf x=some .globalImplicit
def vv{E:ci}{aa:bK}{s:Shared}{f:St}{H:Hp}{x:Str}{u:Value}{e:Pos}{Q:ci}(a:Inv X aa f H s)(c:Gl X x)(d:X.mg x=some u)(h:Q u s)
  (b:(x==("__debug__":Str))=false:=by decide):wpAny (model X.prog X.w) X.A (eval (.Name x e) X.ag) Q E s:=
 Calls.Name_function_global a.ok.kind c (Calls.loadGlobal_global (by rw[a.ok.mD];exact a.mod.mD.keeps a.bk) d h) b
def mL{E:ci}{aa:bK}{s:Shared}{k:St}{H:Hp}{x:Str}{u:Value}{j:Pos}{Q:ci}(a:Inv X aa k H s)(e:Gl X x)(f:X.mg x=none)(i:bootBuiltins x=some u)(h:Q u s)
  (g:x≠"__name__":=by decide)(d:(x==("__debug__":Str))=false:=by decide):wpAny (model X.prog X.w) X.A (eval (.Name x j) X.ag) Q E s:=by
 obtain⟨l,b,c⟩:=a.mod.pM;exact Calls.Name_function_global a.ok.kind e (Calls.loadGlobal_builtin (by rw[a.ok.mD];exact a.mod.mD.keeps a.bk) f (by rw[a.ok.pM];exact b.keeps a.bk) ((c x g).trans i) h) d
def Qy{x:Str}{v:V}{u:Value}{e:Pos}(c:Gl X x)(d:X.mg x=some u)(r:bM v u)(b:(x==("__debug__":Str))=false:=by decide):PE X (.Name x e) (tC v):=
 λ_ _ _ H _ a h=>vv a c d ⟨v,H,a,r,h⟩ b
variable{a b:Expr}{ta tb:TE}{pos:Pos}
def PC(X:Cx)(op:CmpOp)(a b:Expr)(f:TE):Prop:=
 ∀(aa:bK)(s:Shared)(c:St)(H:Hp)(Q:VK),Inv X aa c H s->f c H Q->
  wpAny (model X.prog X.w) X.A (eval a X.ag) (λv d=>wpAny (model X.prog X.w) X.A (eval b X.ag) (λu e=>wpAny (model X.prog X.w) X.A (compareOp op v u) (EP X aa c Q) X.xe e) X.xe d) X.xe s
def OQ(b:Expr){op:CmpOp}(h:op≠ .In)(d:op≠ .NotIn):behindInMarks op b=false:=by
 have a:(op==CmpOp.In)=false:=by cases op<;>first|rfl|exact absurd rfl h
 have c:(op==CmpOp.NotIn)=false:=by cases op<;>first|rfl|exact absurd rfl d
 cases b<;>simp[behindInMarks,a,c]
def tB(b:TE):TT:=λd H Q=>b d H λx a=>∃c,x=.bl c/\Q c a
def Rc{op:CmpOp}{f:TE}(h:PC X op a b f)(e:behindInMarks op b=false:=by first|exact OQ _ ∅ ∅ |rfl):PT X (.Compare a [op] [b] pos) (tB f):=by intro aa s o H Q i l;refine wpAny_isTrue_Compare1 (bu (h aa s o H _ i l) λv p e=>bu e λu r k=>bu k λc t ⟨x,g,j,n,m⟩=>?_) e;obtain⟨d,rfl,q⟩:=m;cases n;exact Xv ⟨g,j,q⟩
def d8{e:Expr}{a:TE}(h:PE X e a)(i:∀b,isTrue e X.ag b=(do let v<-b;standAt e.pos;holding [v] (truthy v)):=by intro _;rfl):PT X e (tB a):=by intro aa s m H Q f j;refine isTrue_plain (bu (h aa s m H _ f j) λv n ⟨x,c,g,l,k⟩=>?_) (i _);obtain⟨d,rfl,q⟩:=k;cases l;exact Xv ⟨c,g,q⟩
variable{tA wJ:TT}{rest:en}
def AH(d u:TT):TT:=λb H Q=>d b H λc a=>if c=true then u b a Q else Q false a
def IQ(d u:TT):TT:=λb H Q=>d b H λc a=>if c=true then Q true a else u b a Q
def IP(b:TT):TT:=λd H Q=>b d H λc a=>Q (!c) a
def nP(d:PT X a tA):PW X (.BoolOp .And [a] pos) tA:=by
 intro i aa s f H Q b h;refine isTrue_and (bu (d aa s f H Q b h) λc g e=>?_);cases c with
 |true=>exact isTrue_and_nil e
 |false=>exact e
def lT(d:PT X a tA):PW X (.BoolOp .Or [a] pos) tA:=by
 intro i aa s f H Q b h;refine isTrue_or (bu (d aa s f H Q b h) λc g e=>?_);cases c with
 |false=>exact isTrue_or_nil e
 |true=>exact e
def nO(j:PT X a tA)(k:PW X (.BoolOp .And (b::rest) pos) wJ):PW X (.BoolOp .And (a::b::rest) pos) (AH tA wJ):=by
 intro m aa s g H Q i h;refine isTrue_and (bu (j aa s g H _ i h) λc l ⟨d,e,f⟩=>?_);cases c with
 |true=>exact k m aa l g d Q e f
 |false=>exact⟨d,e,f⟩
def j5(j:PT X a tA)(k:PW X (.BoolOp .Or (b::rest) pos) wJ):PW X (.BoolOp .Or (a::b::rest) pos) (IQ tA wJ):=by
 intro m aa s g H Q i h;refine isTrue_or (bu (j aa s g H _ i h) λc l ⟨d,e,f⟩=>?_);cases c with
 |true=>exact⟨d,e,f⟩
 |false=>exact k m aa l g d Q e f
def jC(e:PT X a tA):PT X (.UnaryOp .Not a pos) (IP tA):=by intro aa s f H Q d h;exact isTrue_not (e aa s f H (λc b=>Q (!c) b) d h)
def IH(ta tb:TE):TE:=λb H Q=>ta b H λx a=>∃c,x=.bl c/\if c=true then tb b a Q else Q (.bl false) a
def IR(ta tb:TE):TE:=λb H Q=>ta b H λx a=>∃c,x=.bl c/\if c=true then Q (.bl true) a else tb b a Q
def nH{op}{b:TE}(h:PE X a b):PE X (.BoolOp op [a] pos) b:=λaa s e H Q c d=>BoolOp_one (h aa s e H Q c d)
def lj(j:PE X a ta)(k:PE X (.BoolOp .And (b::rest) pos) tb):PE X (.BoolOp .And (a::b::rest) pos) (IH ta tb):=by
 intro aa s g H Q i h;refine BoolOp_and (bu (j aa s g H _ i h) λv m ⟨x,e,f,l,d⟩=>?_);obtain⟨c,rfl,d⟩:=d;cases l;refine Xv ?_;cases c with
 |true=>exact k aa m g e Q f d
 |false=>exact⟨.bl false,e,f,rfl,d⟩
def EZ(j:PE X a ta)(k:PE X (.BoolOp .Or (b::rest) pos) tb):PE X (.BoolOp .Or (a::b::rest) pos) (IR ta tb):=by
 intro aa s g H Q i h;refine BoolOp_or (bu (j aa s g H _ i h) λv m ⟨x,e,f,l,d⟩=>?_);obtain⟨c,rfl,d⟩:=d;cases l;refine Xv ?_;cases c with
 |false=>exact k aa m g e Q f d
 |true=>exact⟨.bl true,e,f,rfl,d⟩
def IL(d:TT)(ta tb:TE):TE:=λa H Q=>d a H λc b=>if c=true then ta a b Q else tb a b Q
def sM{c:Expr}(n:PT X c tA)(l:PE X a ta)(m:PE X b tb):PE X (.IfExp c a b pos) (IL tA ta tb):=by
 intro aa s e H Q k h;refine wpAny_IfExp (bu (n aa s e H _ k h) λd j ⟨f,g,i⟩=>?_);cases d with
 |true=>exact l aa j e f Q g i
 |false=>exact m aa j e f Q g i
end
def aT(K:Frag)(H:Hp)(a:Addr)(xs:aQ):Prop:=
 Rd H a (.aq xs)\/
  ∃(o:Obj)(b:Array Value)(n:Nat),K.lookup a=some o/\o.cls=.type "list"/\o.dict=none/\o.data=.seq b n/\b.size<=sizeLine/\bH xs b.toList
def bi(K:Frag)(H:Hp)(a:Addr)(xs:aQ):Prop:=
 Rd H a (.aN xs)\/
  ∃(o:Obj)(b:Array Value)(n:Nat),K.lookup a=some o/\o.cls=.type "tuple"/\o.data=.seq b n/\b.size<=sizeLine/\bH xs b.toList
noncomputable def JA:Value->b9
 | .none=>some .aO
 | .bool b=>some (.bl b)
 | .int i _=>some (.int i)
 | .str x _=>some (.str x)
 | .bytes b _=>some (.iN b)
 | .float b _=>some (.uN b)
 | .ref a=>some (.ref a)
 | .type n=>some (.ty n)
 |_=>none
def bM.Bb{x:V}{u:Value}(r:bM x u):JA u=some x:=by
 cases x with
 |aO=>cases r;rfl
 |bl _=>cases r;rfl
 |int _=>obtain⟨a,rfl⟩:=r;rfl
 |str _=>obtain⟨a,rfl⟩:=r;rfl
 |iN _=>obtain⟨a,rfl⟩:=r;rfl
 |uN _=>obtain⟨a,rfl⟩:=r;rfl
 |ref _=>cases r;rfl
 |ty _=>cases r;rfl
def bM.inj{x y:V}{u:Value}(r:bM x u)(q:bM y u):x=y:=Vr (r.Bb.symm.trans q.Bb)
theorem bH.inj:∀{xs ys:aQ}{us:bD},bH xs us->bH ys us->xs=ys
 |_,_,_,.nil,.nil=>rfl
 |_,_,_,.cons r t,.cons r' t'=>by rw[r.inj r',bH.inj t t']
section
variable{X:Cx}{aa:bK}{U:St}{H:Hp}{s:Shared}{a:Addr}{xs ys:aQ}
def aT.of{K:Frag}(h:H a=some (.aq xs)):aT K H a xs:=.inl (.inl h)
def bi.of{K:Frag}(h:H a=some (.aN xs)):bi K H a xs:=.inl (.inl h)
def Inv.list(c:Inv X aa U H s)(h:aT X.K H a xs):∃b:bD,bH xs b/\PlainL s.heap a b.toArray/\xs.length<=sizeLine:=by
 rcases h with h|⟨o,b,n,g,d,f,i,k,r⟩
 ·obtain⟨j,b,n,r,e⟩:=h.ok c.aK;exact⟨b,r,⟨_,n,e,rfl,rfl,rfl⟩,j⟩
 ·refine⟨b.toList,r,⟨o,n,c.jd a o g,d,f,by simpa using i⟩,?_⟩;have e:=r.length;simp only[Array.length_toList] at e
  lia
def Inv.tuple(c:Inv X aa U H s)(h:bi X.K H a xs):∃b:bD,bH xs b/\IsTup s.heap a b.toArray/\xs.length<=sizeLine:=by
 rcases h with h|⟨o,b,n,f,d,g,j,r⟩
 ·obtain⟨i,b,r,p⟩:=h.ok c.aK;exact⟨b,r,p,i⟩
 ·refine⟨b.toList,r,⟨o,c.jd a o f,d,n,by simpa using g⟩,?_⟩;have e:=r.length;simp only[Array.length_toList] at e
  lia
def Inv.sk(b:Inv X aa U H s)(h:aT X.K H a xs)(h':aT X.K H a ys):xs=ys:=by
 obtain⟨f,r,⟨o,n,e,_,_,d⟩,_⟩:=b.list h;obtain⟨jc,r',⟨o',g,c,_,_,d'⟩,_⟩:=b.list h';rw[e] at c;cases c;rw[d] at d';injection d' with d1 _;have:f=jc:=by simpa using Wk Array.toList d1
 subst this;exact r.inj r'
def Inv.Jf(b:Inv X aa U H s)(h:bi X.K H a xs)(h':bi X.K H a ys):xs=ys:=by
 obtain⟨f,r,⟨o,e,_,n,d⟩,_⟩:=b.tuple h;obtain⟨jc,r',⟨o',c,_,g,d'⟩,_⟩:=b.tuple h';rw[e] at c;cases c;rw[d] at d';injection d' with d1 _;have:f=jc:=by simpa using Wk Array.toList d1
 subst this;exact r.inj r'
end
noncomputable abbrev Cx.l8(X:Cx)(E:ci):Cx:={X with xe:=E}
abbrev Cx.nD(X:Cx):Cx:=X.l8 λ_ _=>False
def Cx.Ok.l8{X:Cx}(a:X.Ok)(E:ci):(X.l8 E).Ok:=
 ⟨a.mod,a.kind,a.mD,a.pM,a.above,a.inj,a.has,a.rE,a.hd,a.frames,a.wI,a.uK,a.bs,a.mj,a.sx,a.rQ,a.ku,a.oH⟩
def Cx.Ok.nZ{X:Cx}{E:ci}(a:(X.l8 E).Ok):X.Ok:=
 ⟨a.mod,a.kind,a.mD,a.pM,a.above,a.inj,a.has,a.rE,a.hd,a.frames,a.wI,a.uK,a.bs,a.mj,a.sx,a.rQ,a.ku,a.oH⟩
section
variable{X:Cx}{aa:bK}{U:St}{H:Hp}{s:Shared}{E:ci}
def Inv.l8(a:Inv X aa U H s)(E:ci):Inv (X.l8 E) aa U H s:=⟨a.ok.l8 E,a.os,a.gi,a.ah,a.iS,a.cell,a.free,a.k6,a.j3,a.aK,a.aC⟩
def Inv.nZ(a:Inv (X.l8 E) aa U H s):Inv X aa U H s:=⟨a.ok.nZ,a.os,a.gi,a.ah,a.iS,a.cell,a.free,a.k6,a.j3,a.aK,a.aC⟩
def SP.nZ{d:iI}{f:Flow}{e:Shared}(h:SP (X.l8 E) aa d f e):SP X aa d f e:=by
 cases f with
 |next=>obtain⟨c,a,b,q⟩:=h;exact⟨c,a,b.nZ,q⟩
 |brk=>obtain⟨c,a,b,q⟩:=h;exact⟨c,a,b.nZ,q⟩
 |cont=>obtain⟨c,a,b,q⟩:=h;exact⟨c,a,b.nZ,q⟩
 |ret u=>obtain⟨v,c,a,b,r,q⟩:=h;exact⟨v,c,a,b.nZ,r,q⟩
def iK.nD{a:List Stmt}{b:TS}(h:iK X.nD a b):iK X a b:=λaa s U H c d e=>W3 (h aa s U H c (d.l8 _) e) (λ_ _ q=>q.nZ) λ_ _ f=>False.elim f
end
section
variable{X:Cx}{st:Stmt}{rest:List Stmt}{t u:TS}{e:Expr}{te:TE}{pos:Pos}
def qG:TS:=λa b H=>a.nx b H
def IU(t u:TS):TS:=λa b H=>t {a with nx:=u a} b H
def bx:iK X [] qG:=λ_ _ b H _ a h=>wpAny_execs_nil ⟨b,H,a,h⟩
def au(e:PS X st t)(g:iK X rest u):iK X (st::rest) (IU t u):=by
 intro aa s j H a c h;refine wpAny_execs_cons (bu (e aa s j H {a with nx:=u a} c h) λf i q=>?_);cases f with
 |next=>obtain⟨k,b,d,q⟩:=q;exact g aa i k b a d q
 |ret v=>exact q
 |brk=>exact q
 |cont=>exact q
def aw(c:PS X st t):iK X [st] t:=by
 intro aa s d H a b h;refine wpAny_execs_cons (bu (c aa s d H a b h) λf e q=>?_);cases f with
 |next=>exact wpAny_execs_nil q
 |ret v=>exact q
 |brk=>exact q
 |cont=>exact q
def II:TS:=λa b H=>a.ct b H
def zC:PS X (.Continue pos) II:=λ_ _ b H _ a h=>wpAny_Continue ⟨b,H,a,h⟩
def Inv.quiet{aa:bK}{b:St}{H:Hp}{s:Shared}(a:Inv X aa b H s):interactive X.ag=false:=by simp[interactive,a.ok.kind]
def qF(te:TE):TS:=λb a H=>te a H λ_ c=>b.nx a c
def dU(f:PE X e te)(g:swapsWith e none pos.line X.ag=pure false:=by rfl):PS X (.Expr e pos) (qF te):=by intro aa s b H j a h;exact wpAny_Expr_any (bu (f aa s b H _ a h) λv l ⟨x,c,d,k,i⟩=>⟨b,c,d,i⟩) a.quiet g
def qH(te:TE):TS:=λa b H=>te b H a.rt
def aJ(f:PE X e te):PS X (.Return (some e) pos) (qH te):=by intro aa s a H j c h;exact wpAny_Return_some (bu (f aa s a H _ c h) λv k ⟨x,b,d,i,g⟩=>⟨x,a,b,d,i,g⟩)
def IT:TS:=λa _ H=>a.rt .aO H
def Ra:PS X (.Return none pos) IT:=λ_ _ b H _ a h=>wpAny_Return_none ⟨.aO,b,H,a,rfl,h⟩
def tz(c:TT)(t u:TS):TS:=λd a H=>c a H λb e=>if b=true then t d a e else u d a e
def a_{c:Expr}{a b:List Stmt}{l:TT}(p:PT X c l)(n:iK X a t)(o:iK X b u):PS X (.If c a b pos) (tz l t u):=by
 intro aa s e H f m h;refine wpAny_If (bu (p aa s e H _ m h) λd k ⟨g,i,j⟩=>?_);cases d with
 |true=>exact n aa k e g f i j
 |false=>exact o aa k e g f i j
end
abbrev TG:=V->St->Hp->(St->Hp->Prop)->Prop
abbrev ni:=aQ->St->Hp->(St->Hp->Prop)->Prop
def PG(X:Cx)(f:Expr)(e:TG):Prop:=
 ∀(aa:bK)(s:Shared)(b:St)(H:Hp)(v:V)(u:Value)(Q:St->Hp->Prop),Inv X aa b H s->bM v u->e v b H Q->
  wpAny (model X.prog X.w) X.A (assign f X.ag u) (λ_ d=>∃c a,Inv X aa c a d/\Q c a) X.xe s
def qX(X:Cx)(ts:en)(e:ni):Prop:=
 ∀(aa:bK)(s:Shared)(b:St)(H:Hp)(vs:aQ)(us:bD)(Q:St->Hp->Prop),Inv X aa b H s->bH vs us->e vs b H Q->
  wpAny (model X.prog X.w) X.A (assignInOrder ((assignEach ts X.ag).map (·.2)) us) (λ_ d=>∃c a,Inv X aa c a d/\Q c a) X.xe s
abbrev tZ:=V->V->V->Hp->(Hp->Prop)->Prop
def A6(X:Cx)(f:tZ):Prop:=
 ∀(aa:bK)(s:Shared)(d:St)(H:Hp)(o i v:V)(c b u:Value)(Q:Hp->Prop),Inv X aa d H s->bM o c->bM i b->bM v u->f o i v H Q->
  wpAny (model X.prog X.w) X.A (setItem c b u) (λ_ e=>∃a,Inv X aa d a e/\Q a) X.xe s
abbrev rc:=V->V->Hp->VK->Prop
def A5(X:Cx)(op:Operator)(b:rc):Prop:=
 ∀(aa:bK)(s:Shared)(a:St)(H:Hp)(x y:V)(v u:Value)(Q:VK),Inv X aa a H s->bM x v->bM y u->b x y H Q->
  wpAny (model X.prog X.w) X.A (inplaceOp op v u) (EP X aa a Q) X.xe s
section
variable{X:Cx}{pos:Pos}
def dA(i:Nat):TG:=λv a H Q=>Q (a.set i (some v)) H
def QH{i:Nat}{x:Str}(c:X.N.Nodup)(e:X.N[i]? =some x)(f:ol X.ag.scope x)(d:X.fn x=true\/X.ag.scope.names.lookup x=some .local:=by first|exact .inl rfl|exact .inr rfl|assumption):PG X (.Name x pos) (dA i):=by intro aa s j H v u Q a r h;exact wpAny_assign_Name (AE a c e f r (λg b=>⟨_,H,b,h⟩) d)
def rZ:ni:=λvs a H Q=>vs=[]/\Q a H
def my(b:TG)(u:ni):ni:=λvs c H Q=>∃v r,vs=v::r/\b v c H λd a=>u r d a Q
def lq:qX X [] rZ:=by intro aa s b H vs us Q a r h;obtain⟨e,h⟩:=h;subst e;cases r;exact assignInOrder_nil ⟨b,H,a,h⟩
def f_{e:Expr}{a:en}{b:TG}{u:ni}(i:PG X e b)(j:qX X a u)
  (k:(assignEach (e::a) X.ag).map (·.2)=assign e X.ag::(assignEach a X.ag).map (·.2):=by rfl):qX X (e::a) (my b u):=by
 intro aa s n H vs us Q d r h;obtain⟨v,p,g,h⟩:=h;subst g;cases r with
 |cons r rr=>rw[k];refine assignInOrder_cons (bu (i aa s n H _ _ _ d r h) λ_ m ⟨o,c,f,l⟩=>?_);exact j aa m o c _ _ Q f rr l
def pW(K:Frag)(n:Nat)(b:ni):TG:=λv c H Q=>∃a xs,v=.ref a/\bi K H a xs/\xs.length=n/\b xs c H Q
def QI{c:en}{k:Nat}{i:ni}{n:Nat}(p:X.ki=true)(h:qX X c i)
  (t:(assignEach c X.ag).length=n:=by rfl)(x:(assignEach c X.ag).findIdx? (·.1)=none:=by rfl):PG X (.Tuple c k pos) (pW X.K n i):=by
 intro aa s j H v u Q d r f;obtain⟨a,xs,m,w,q,f⟩:=f;subst m;cases r;obtain⟨B,g,y,A⟩:=d.tuple w;refine assign_Tuple_tuple (d.ok.hd p) y (by simp[t, <-q,g.length]) x λh' z=>?_;have l:Inv X aa j H {s with heap:=h'}:=d.kept (t':=s.toks) λb o e=>z b o (Wc (VD e)) e;exact h aa _ j H xs _ Q l (by simpa using g) f
def uQ(g f:TE)(e:tZ):TG:=λv a H Q=>g a H λo b=>f a b λi c=>e o i v c λd=>Q a d
def nI{o i:Expr}{f e:TE}{d:tZ}(w:PE X o f)(t:PE X i e)(z:A6 X d)
  (q:∀v,assign (.Subscript o i pos) X.ag v=(do
   let a<-holding [v] (eval o X.ag);let b<-holding [v,a] (eval i X.ag)
   standAt pos
   holding [v,a,b] (setItem a b v)
   release [v,a,b] []):=by intro _;rfl):PG X (.Subscript o i pos) (uQ f e d):=by
 intro aa s c H v u Q l r h;rw[q];refine Vi (wpAny_holding (bu (w aa s c H _ l h) λa F ⟨x,g,m,D,A⟩=>?_));refine Vi (wpAny_holding (bu (t aa F c g _ m A) λb G ⟨y,j,n,E,B⟩=>?_));refine Vi (wpAny_standAt (Vi (wpAny_holding (bu (z aa G c j x y v a b u _ n D E r B) λ_ I ⟨k,p,C⟩=>?_))));exact wpAny_release ⟨c,k,p,C⟩
def qD(e:TE)(d:TG):TS:=λb a H=>e a H λx c=>d x a c b.nx
def nN{a e:Expr}{c:TE}{b:TG}(k:PE X e c)(l:PG X a b)(m:swapsWithSole [a] e pos.line X.ag=pure false:=by rfl)(n:swappedStores [a] e X.ag=pure none:=by rfl)
  (j:(assignEach [a] X.ag).map (·.2)=[assign a X.ag]:=by rfl):PS X (.Assign [a] e pos) (qD c b):=by
 intro aa s d H t g h;refine wpAny_Assign_stores (bu (k aa s d H _ g h) λv r ⟨x,f,i,p,o⟩=>?_) m n;rw[j];exact bu (l aa r d f x v _ i p o) λ_ u q=>q
def Rb{i:Nat}{x:Str}{e:Expr}{b:TE}{a:Pos}(j:X.N.Nodup)(m:X.N[i]? =some x)(o:ol X.ag.scope x)(k:PE X e b)(n:swapsWith e (some (.Name x a)) pos.line X.ag=pure false:=by rfl)(l:X.fn x=true\/X.ag.scope.names.lookup x=some .local:=by first|exact .inl rfl|exact .inr rfl|assumption):
  PS X (.Assign [.Name x a] e pos) (qD b (dA i)):=by
 intro aa s r H t d h;refine wpAny_Assign_Name (bu (k aa s r H _ d h) λv u ⟨y,c,f,q,p⟩=>?_) n;exact AE f j m o q (λw g=>⟨_,c,g,p⟩) l
def AI(i:Nat)(e:TE)(f:rc):TS:=λb a H=>∃x,a[i]? =some (some x)/\e a H λy c=>f x y c λg d=>b.nx (a.set i (some g)) d
def zB{i:Nat}{x:Str}{e:Expr}{j:TE}{op:Operator}{n:rc}{P:Pos}(E:X.N.Nodup)(g:X.N[i]? =some x)(d:ol X.ag.scope x)(I:PE X e j)(O:A5 X op n)(J:X.fn x=true\/X.ag.scope.names.lookup x=some .local:=by first|exact .inl rfl|exact .inr rfl|assumption):
  PS X (.AugAssign (.Name x P) op e pos) (AI i j n):=by
 intro aa s o H p b h;obtain⟨v,D,h⟩:=h;obtain⟨m,M,K⟩:=b.iS;have ab:pJ X.ag.scope x:=by rcases d with k|k;exact .inl k;exact .inr (.inl k)
 obtain⟨u,r,l⟩:=K i x v g D ab;refine wpAny_AugAssign_Name ?_;have f:wpAny (model X.prog X.w) X.A (eval e X.ag) (λw W=>wpAny (model X.prog X.w) X.A (inplaceOp op u w) (λr Y=>wpAny (model X.prog X.w) X.A (storeName X.ag x r) (λ_=>SP X aa p .next) X.xe Y) X.xe W) X.xe s:=by refine bu (I aa s o H _ b h) λw V ⟨y,q,z,S,Q⟩=>?_;refine bu (O aa V o q v y u w _ z r S Q) λae ac ⟨af,t,B,T,R⟩=>?_;exact AE B E g d T (λad C=>⟨_,t,C,R⟩) J
 rcases l with ⟨a,L⟩|⟨a,c,F,G⟩
 ·exact wpAny_loadName_local b.ok.kind a M L f
 ·rcases a with a|a
  ·exact wpAny_loadName_cell b.ok.kind a F G f
  ·rcases d with k|k
   ·have:X.ag.scope.names.lookup x=some .free:=a;rw[k] at this;cases this
   ·have:X.ag.scope.names.lookup x=some .free:=a;rw[k] at this;cases this
def yw(f:Int->Int->Int):rc:=λx y H Q=>∃i j,x=.int i/\y=.int j/\Q (.int (f i j)) H
def yx:A5 X .Add (yw λi j=>i+j):=by intro aa s g H x y v u Q a d e h;obtain⟨i,j,b,c,q⟩:=h;subst b;subst c;obtain⟨f,rfl⟩:=d;obtain⟨t',rfl⟩:=e;exact iadd_int ⟨.int _,H,a.i6 _,⟨_,rfl⟩,q⟩
end
section
variable{X:Cx}{pos:Pos}
def IX(c:TT)(j:TS):TS:=λd a H=>∃e:Nat->St->Hp->Prop,(∃m,e m a H)/\∀m a H,e m a H->
 c a H λb g=>if b=true then ∃N:St->Hp->Prop,(∀i f,N i f->∃h,h<m/\e h i f)/\j {d with nx:=N,ct:=N,bk:=d.nx} a g else d.nx a g
def Fo{c:Expr}{u:List Stmt}{B:TT}{z:TS}(y:PassesOwn (model X.prog X.w) X.A X.ag X.xe)(I:PT X c B)(G:iK X u z):PS X (.While c u [] pos) (IX B z):=by
 intro aa s R H S D h;obtain⟨F,⟨J,P⟩,O⟩:=h;refine wpAny_While (codeAny_whileLoop (λn K=>∃C p,Inv X aa C p K/\F n C p) ?_ J ⟨R,H,D,P⟩);rintro n L ⟨i,q,E,Q⟩;refine Xm y (bu (I aa L i q _ E (O n i q Q)) λb M ⟨r,t,e⟩=>?_);cases b with
 |true=>
  obtain⟨N,x,e⟩:=e;rw[Vh rfl];refine Xm y (bu (G aa M i r _ t e) λf T g=>?_);cases f with
  |next=>obtain⟨d,a,j,m⟩:=g;obtain⟨l,k,o⟩:=x d a m;exact⟨l,k,d,a,j,o⟩
  |cont=>obtain⟨d,a,j,m⟩:=g;obtain⟨l,k,o⟩:=x d a m;exact⟨l,k,d,a,j,o⟩
  |brk=>exact g
  |ret v=>exact g
 |false=>rw[Vg VG];exact wpAny_execs_nil ⟨i,r,t,e⟩
end
structure It where
 go:Nat->Hp->Prop
 n_:Nat->Hp->V->Hp->Prop
 kI:Nat->Hp->Prop
def ke(X:Cx)(aa:bK)(H:Hp)(b:Addr):Prop:=
 H b=none/\b≠X.ag.locals/\b∉X.fs/\(b∈X.ex\/X.gN.heap.objs.size<=b)/\(∀x c,X.ag.cells.lookup x=some c->c≠b)/\∀p∈X.pn++aa,p.1≠b
def Inv.np{X:Cx}{aa:bK}{j:St}{H g:Hp}{s:Shared}{b:Addr}(a:Inv X aa j H s)(d:s.heap.objs.size<=b)(h:g b=none):ke X aa g b:=by
 refine⟨h,Nat.ne_of_gt (VR a.lt d),a.OW d,.inr (Vy a.sz d),λx c e f=>?_,λp i f=>?_⟩
 ·obtain⟨v,q⟩:=a.cell x c e;exact absurd (VR q.lt (by rw[f];exact d)) (WV _)
 ·exact absurd (VR (VD (a.j3 p i).1) (by rw[f];exact d)) (WV _)
structure mf(P:Program)(w:World)(K:Frag)(tg:Expr)(J:It)(fp:bL)(it:Addr)(tn:Nat->Heap->Prop):Prop where
 mem:it∈fp
 obj:∀i h,tn i h->∀b∈fp,∃o,h.get? b=some o/\∀v,o.data≠ .cell v
 keep:∀i h h',tn i h->(∀b∈fp,∀o,h.get? b=some o->h'.get? b=some o)->tn i h'
 item:∀(X:Cx),X.prog=P->X.w=w->X.K=K->X.ki=true->∀(i:Nat)(aa:bK)(s:Shared)(U:St)(H:Hp)(E:ci),Inv X aa U H s->(∀b∈fp,ke X aa H b)->tn i s.heap->J.go i H->
  wpAny (model P w) X.A (pyNext (.ref it)) (λr s1=>∃u,r=some u/\
   wpAny (model P w) X.A (letOwnedTupleGo tg (.ref it) u) (λ_ s2=>∃x Z,Inv X aa U Z s2/\bM x u/\J.n_ i H x Z/\tn (i+1) s2.heap/\∀b∈fp,Z b=none) E s1) E s
 done:∀(X:Cx),X.prog=P->X.w=w->X.K=K->X.ki=true->∀(i:Nat)(aa:bK)(s:Shared)(U:St)(H:Hp)(E:ci),Inv X aa U H s->(∀b∈fp,ke X aa H b)->tn i s.heap->J.kI i H->
  wpAny (model P w) X.A (pyNext (.ref it)) (λr s1=>r=none/\Inv X aa U H s1) E s
 lU:∀(A:Around)(i:Nat)(s:Shared)(Q:ci)(E:ci),tn i s.heap->Q (.ref it) s->wpAny (model P w) A (pyIter (.ref it)) Q E s
abbrev TI:=St->Hp->(It->Hp->Prop)->Prop
def xh(X:Cx)(aa:bK)(j:St)(i:Expr)(R:It->Hp->Prop)(h:Value)(f:Shared):Prop:=
 ∃(e:Addr)(d:bL)(g:Nat->Heap->Prop)(c:It)(a:Hp),h=.ref e/\Inv X aa j a f/\mf X.prog X.w X.K i c d e g/\g 0 f.heap/\(∀b∈d,ke X aa a b)/\R c a
def PI(X:Cx)(d b:Expr)(e:TI):Prop:=
 ∀(aa:bK)(s:Shared)(a:St)(H:Hp)(R:It->Hp->Prop),Inv X aa a H s->e a H R->
  wpAny (model X.prog X.w) X.A (eval b X.ag) (λv c=>wpAny (model X.prog X.w) X.A (pyIter v) (xh X aa a d R) X.xe c) X.xe s
def uV{M:Model}{A:Around}{E:ci}{s:Shared}{c:Expr}{b:Addr}{u:Value}{o:Obj}{n:String}{vs:Array Value}{Q:Unit->Shared->Prop}(g:s.heap.get? b=some o)(d:o.cls=.type n)(e:o.data=.fields vs)
  (f:["enumerate","zip","dict_itemiterator","dict_reverseitemiterator","odict_iterator","itertools.zip_longest","itertools.pairwise"].contains n=false)(a:Q () s):wpAny M A (letOwnedTupleGo c (.ref b) u) Q E s:=by
 unfold letOwnedTupleGo;cases c<;>first
  |exact VL a
  |(cases u<;>first
    |exact VL a
    |(refine Vi (wpAny_load g ?_)
      rw[d,e];show wpAny M A (if (["enumerate","zip","dict_itemiterator","dict_reverseitemiterator","odict_iterator","itertools.zip_longest","itertools.pairwise"].contains n&&vs[0]? ==some (rawInt _))=true then _ else _) Q E s;rw[Vg (by intro h;rw[f,Bool.false_and] at h;cases h)];exact VL a))
def oi(K:Frag)(a:Addr):It:=
 ⟨λi H=>∃xs x,aT K H a xs/\xs[i]? =some x,λi H x b=>b=H/\∀xs,aT K H a xs->xs[i]? =some x,λi H=>∃xs,aT K H a xs/\xs.length<=i⟩
def xf(K:Frag)(a:Addr):It:=
 ⟨λi H=>∃xs x,bi K H a xs/\xs[i]? =some x,λi H x b=>b=H/\∀xs,bi K H a xs->xs[i]? =some x,λi H=>∃xs,bi K H a xs/\xs.length<=i⟩
def mZ(b:Int)(n:Nat):It:=⟨λi _=>i<n,λi H x a=>a=H/\x=.int (b+i),λi _=>n<=i⟩
def Tl{P:Program}{w:World}{K:Frag}{tg:Expr}(a it:Addr):mf P w K tg (oi K a) [it] it (λi h=>h.IsListIter it a i) where
 mem:=by simp
 obj:=λi h st b hb=>by
  have e:b=it:=by simpa using hb
  subst e;obtain⟨o,e,c,d⟩:=st;exact⟨o,e,λv z=>by rw[d] at z;cases z⟩
 keep:=λi h h' st k=>st.at λo e=>k it (by simp) o e
 item:=by intro X hP hw hK hc i aa s U H E I hf st hg;subst hP hw hK;obtain⟨xs,x,hq,hx⟩:=hg;obtain⟨its,rv,p,hz⟩:=I.list hq;obtain⟨u,hu,ru⟩:=rv.get hx;obtain⟨f0,f1,f2,f3,f4,f5⟩:=hf it (by simp);refine wpAny_pyNext_list_item st p.isList (x:=u) (by simpa using hu) λh' st' sb=>?_;have I1:Inv X aa U H {s with heap:=h'}:=I.lB (t':=s.toks) (λb o hb e=>(sb.2 b hb).trans e) f0 f1 f3 f4 f5;obtain⟨o,e,c,d⟩:=id st';exact⟨u,rfl,uV (s:={s with heap:=h'}) e c d ∅ ⟨x,H,I1,ru,⟨rfl,λys hy=>by rw[I.sk hy hq];exact hx⟩,st',λb hb=>(hf b hb).1⟩⟩
 done:=by intro X hP hw hK hc i aa s U H E I hf st hg;subst hP hw hK;obtain⟨xs,hq,hx⟩:=hg;obtain⟨its,rv,p,hz⟩:=I.list hq;obtain⟨f0,f1,f2,f3,f4,f5⟩:=hf it (by simp);have hl:=rv.length;exact wpAny_pyNext_list_end (I.ok.hd hc) st p.isList (by simp;lia) λh' eb=>⟨rfl,I.lB (t':=s.toks) (λb o hb e=>eb b o hb e) f0 f1 f3 f4 f5⟩
 lU:=λ_ _ _ _ _ st h=>wpAny_pyIter_listiter st h
def Tq{P:Program}{w:World}{K:Frag}{tg:Expr}(a it:Addr):mf P w K tg (xf K a) [it] it (λi h=>h.IsTupleIter it a i) where
 mem:=by simp
 obj:=λi h st b hb=>by
  have e:b=it:=by simpa using hb
  subst e;obtain⟨o,e,c,d⟩:=st;exact⟨o,e,λv z=>by rw[d] at z;cases z⟩
 keep:=λi h h' st k=>st.at λo e=>k it (by simp) o e
 item:=by intro X hP hw hK hc i aa s U H E I hf st hg;subst hP hw hK;obtain⟨xs,x,hq,hx⟩:=hg;obtain⟨its,rv,p,hz⟩:=I.tuple hq;obtain⟨u,hu,ru⟩:=rv.get hx;obtain⟨f0,f1,f2,f3,f4,f5⟩:=hf it (by simp);refine wpAny_pyNext_tuple_item st (show s.heap.IsTuple a its.toArray from p) (x:=u) (by simpa using hu) λh' st' sb=>?_;have I1:Inv X aa U H {s with heap:=h'}:=I.lB (t':=s.toks) (λb o hb e=>(sb.2 b hb).trans e) f0 f1 f3 f4 f5;obtain⟨o,e,c,d⟩:=id st';exact⟨u,rfl,uV (s:={s with heap:=h'}) e c d ∅ ⟨x,H,I1,ru,⟨rfl,λys hy=>by rw[I.Jf hy hq];exact hx⟩,st',λb hb=>(hf b hb).1⟩⟩
 done:=by intro X hP hw hK hc i aa s U H E I hf st hg;subst hP hw hK;obtain⟨xs,hq,hx⟩:=hg;obtain⟨its,rv,p,hz⟩:=I.tuple hq;obtain⟨f0,f1,f2,f3,f4,f5⟩:=hf it (by simp);have hl:=rv.length;exact wpAny_pyNext_tuple_end (I.ok.hd hc) st (show s.heap.IsTuple a its.toArray from p) (by simp;lia) λh' eb=>⟨rfl,I.lB (t':=s.toks) (λb o hb e=>eb b o hb e) f0 f1 f3 f4 f5⟩
 lU:=λ_ _ _ _ _ st h=>wpAny_pyIter_tupleiter st h
def Tn{P:Program}{w:World}{K:Frag}{tg:Expr}(it:Addr)(lo:Int)(n:Nat):mf P w K tg (mZ lo n) [it] it (λi h=>IsRangeIter h it (lo+(i:Nat)*1) ((n:Int)-(i:Nat)) 1) where
 mem:=by simp
 obj:=λi h st b hb=>by
  have e:b=it:=by simpa using hb
  subst e;exact⟨_,st,λv z=>by have z':Data.fields _=Data.cell v:=z;cases z'⟩
 keep:=λi h h' st k=>k it (by simp) _ st
 item:=by intro X hP hw hK hc i aa s U H E I hf st hg;subst hP hw hK;obtain⟨f0,f1,f2,f3,f4,f5⟩:=hf it (by simp);have W:=Walks.range (prog:=X.prog) (w:=X.w) (I.ok.hd hc) it lo 1 n;refine W.item i s _ _ hg st λv h' tk hv st' kk=>?_;obtain⟨t,rfl⟩:=hv;have I1:Inv X aa U H {s with heap:=h',toks:=tk}:=I.lB (λb o hb e=>kk b o (by simpa using hb) e) f0 f1 f3 f4 f5;refine⟨_,rfl,uV (s:={s with heap:=h',toks:=tk}) (n:="range_iterator") st' rfl rfl ∅ ⟨.int (lo+i),H,I1,⟨t,?_⟩,⟨rfl,rfl⟩,st',λb hb=>(hf b hb).1⟩⟩;rw[Int.mul_one]
 done:=by intro X hP hw hK hc i aa s U H E I hf st hg;subst hP hw hK;obtain⟨f0,f1,f2,f3,f4,f5⟩:=hf it (by simp);exact wpAny_pyNext_range_end (I.ok.hd hc) st (by have:n<=i:=hg;lia) λh' eb=>⟨rfl,I.lB (t':=s.toks) (λb o hb e=>eb b o hb e) f0 f1 f3 f4 f5⟩
 lU:=λ_ _ _ _ _ st h=>wpAny_pyIter_rangeiter st h
section
variable{X:Cx}{tg:Expr}
def yp(K:Frag)(c:TE):TI:=λd H R=>c d H λx b=>∃a,x=.ref a/\(∃xs,aT K b a xs)/\R (oi K a) b
def yr(K:Frag)(c:TE):TI:=λd H R=>c d H λx b=>∃a,x=.ref a/\(∃xs,bi K b a xs)/\R (xf K a) b
def QK{l:Expr}{f:TE}(k:PE X l f):PI X tg l (yp X.K f):=by
 intro aa s t H R i h;refine bu (k aa s t H _ i h) λv d ⟨x,g,c,r,n⟩=>?_;obtain⟨a,e,⟨xs,m⟩,q⟩:=n;subst e;cases r;obtain⟨w,y,p,u⟩:=c.list m;refine wpAny_pyIter_list p.isList ?_;refine⟨d.heap.objs.size,[d.heap.objs.size],_,_,g,rfl,c.kept (t':=d.toks) λb o e=>Vk _ e,Tl a _,⟨_,VM _ rfl,rfl,rfl⟩,λb j=>?_,q⟩;have e:b=d.heap.objs.size:=by simpa using j
 subst e;exact c.np (Vm _) (c.aK.dP (Vm _))
def QM{l:Expr}{f:TE}(k:PE X l f):PI X tg l (yr X.K f):=by
 intro aa s u H R i h;refine bu (k aa s u H _ i h) λv c ⟨x,g,d,t,r⟩=>?_;obtain⟨a,e,⟨xs,m⟩,q⟩:=r;subst e;cases t;obtain⟨n,y,p,w⟩:=d.tuple m;refine wpAny_pyIter_tuple (show c.heap.IsTuple a n.toArray from p) ?_;refine⟨c.heap.objs.size,[c.heap.objs.size],_,_,g,rfl,d.kept (t':=c.toks) λb o e=>Vk _ e,Tq a _,⟨_,VM _ rfl,rfl,rfl⟩,λb j=>?_,q⟩;have e:b=c.heap.objs.size:=by simpa using j
 subst e;exact d.np (Vm _) (d.aK.dP (Vm _))
def FF{aa:bK}{g:St}{H:Hp}{s:Shared}{R:It->Hp->Prop}{E:ci}{a c:Int}{d u v:Tok}{tk:Nat}(h:Inv X aa g H s)(k: -(2^62)<=a)(l:a<2^62)(m: -(2^62)<=c)(n:c<2^62)
  (q:R (mZ a (c-a).toNat) H):wpAny (model X.prog X.w) X.A (pyIter (.ref s.heap.objs.size)) (xh X aa g tg R) E {s with heap:=s.heap.push {cls:=.type "range",data:=.fields #[.int a d,.int c u,.int 1 v]},toks:=tk}:=by
 refine wpAny_pyIter_range (IsRange.new ..) (small_one k l m n) ?_;have f:Inv X aa g H {s with heap:=s.heap.push {cls:=.type "range",data:=.fields #[.int a d,.int c u,.int 1 v]},toks:=tk}:=h.kept λb o e=>Vk _ e;refine⟨(s.heap.push {cls:=.type "range",data:=.fields #[.int a d,.int c u,.int 1 v]}).objs.size,[(s.heap.push {cls:=.type "range",data:=.fields #[.int a d,.int c u,.int 1 v]}).objs.size],_,_,H,rfl,
  f.kept (t':=tk) λb o e=>Vk _ e,Tn _ a (c-a).toNat,?_,λb p=>?_,q⟩
 ·have i:a+((0:Nat):Int)*1=a:=by simp
  have j:(((c-a).toNat:Nat):Int)-((0:Nat):Int)=Builtin.Range.rangeSize a c 1:=by rw[rangeSize_one];split<;>lia
  show IsRangeIter _ _ (a+((0:Nat):Int)*1) ((((c-a).toNat:Nat):Int)-((0:Nat):Int)) 1;rw[i,j];exact VM _ rfl
 ·have e:b=(s.heap.push {cls:=.type "range",data:=.fields #[.int a d,.int c u,.int 1 v]}).objs.size:=by simpa using p
  subst e;exact f.np (Vm _) (f.aK.dP (Vm _))
def yq(b:TA):TI:=λc H R=>b c H λvs a=>∃j:Int,vs=[.int j]/\ -(2^62)<=j/\j<2^62/\R (mZ 0 j.toNat) a
def Dj(b:TA):TI:=λc H R=>b c H λvs a=>∃i j:Int,vs=[.int i,.int j]/\(-(2^62)<=i/\i<2^62/\ -(2^62)<=j/\j<2^62)/\R (mZ i (j-i).toNat) a
def lR{a:Expr}{f:TA}{p d:Pos}(k:Gl X "range")(l:X.mg "range"=none)(i:PA X [a] f)(m:starEach [a] X.ag=[(false,eval a X.ag)]:=by rfl):PI X tg (.Call (.Name "range" p) [a] [] d) (yq f):=by
 intro aa s t H R c h;refine Call_ (mL c k l boot_range (Wv (bu (i d aa s t H _ c h) λus v ⟨vs,u,g,o,b⟩=>?_) m rfl));obtain⟨j,e,b,n,q⟩:=b;subst e;cases o with
 |cons r rr=>cases rr;obtain⟨w,rfl⟩:=r;exact call_range_1 (FF g ⋯ ⋯ b n (by simpa using q))
def zt{a b:Expr}{k:TA}{p g:Pos}(n:Gl X "range")(o:X.mg "range"=none)(m:PA X [a,b] k)(t:starEach [a,b] X.ag=[(false,eval a X.ag),(false,eval b X.ag)]:=by rfl)(f:starEach [b] X.ag=[(false,eval b X.ag)]:=by rfl):
  PI X tg (.Call (.Name "range" p) [a,b] [] g) (Dj k):=by
 intro aa s y H R d h;refine Call_ (mL d n o boot_range (Wv (bu (m g aa s y H _ d h) λus A ⟨vs,z,l,x,c⟩=>?_) (by rw[t,f]) (by rw[f];rfl)));obtain⟨i,j,e,⟨c,u,v,w⟩,q⟩:=c;subst e;cases x with
 |cons r rr=>
  cases rr with
  |cons r' rr=>cases rr;obtain⟨B,rfl⟩:=r;obtain⟨t',rfl⟩:=r';exact call_range_2 (FF l c u v w q)
def AJ(n:TI)(k:TG)(l:TS):TS:=λc a H=>n a H λd h=>∃e:Nat->Nat->St->Hp->Prop,(∃m,e 0 m a h)/\∀i m a H,e i m a H->
 (d.kI i H/\c.nx a H)\/(d.go i H/\∃N:St->Hp->Prop,(∀g b,N g b->∃f,f<m/\e (i+1) f g b)/\∀x b,d.n_ i H x b->k x a b λo j=>l {c with nx:=N,ct:=N,bk:=c.nx} o j)
def sP(a:bL)(h:Heap):bK:=a.filterMap λb=>(h.get? b).map λo=>(b,o)
def yW{a:bL}{h:Heap}{b:Addr}{o:Obj}(c:b∈a)(e:h.get? b=some o):(b,o)∈sP a h:=List.mem_filterMap.mpr ⟨b,c,by rw[e];rfl⟩
def O3{a:bL}{h:Heap}{p:Addr×Obj}(f:p∈sP a h):p.1∈a/\h.get? p.1=some p.2:=by
 obtain⟨b,d,e⟩:=List.mem_filterMap.mp f;cases q:h.get? b with
 |none=>rw[q] at e;cases e
 |some o=>rw[q] at e;have c:(b,o)=p:=Vr e;subst c;exact⟨d,q⟩
def Inv.E5{aa:bK}{i:St}{H:Hp}{s:Shared}{a:bL}(f:Inv X aa i H s)(m:∀b∈a,ke X aa H b)(n:∀b∈a,∃o,s.heap.get? b=some o/\∀v,o.data≠ .cell v):Inv X (aa++sP a s.heap) i H s:=
 f.E6 λp q=>(VQ.mp q).elim (λc=>f.j3 p (WC _ c)) λc=>by obtain⟨h,e⟩:=O3 c;obtain⟨j,k,l,_⟩:=m p.1 h;obtain⟨o,g,d⟩:=n p.1 h;rw[e] at g;cases g;exact⟨e,j,k,l,d⟩
def Inv.wQ{aa pl:bK}{b:St}{H:Hp}{s:Shared}(a:Inv X (aa++pl) b H s):Inv X aa b H s:=a.E6 λp c=>a.j3 p (WC _ (List.mem_append_left _ c))
def dY{D:Expr}{M:List Stmt}{ad:TI}{Q:TG}{ab:TS}{aC:Pos}(q:PassesOwn (model X.prog X.w) X.A X.ag X.xe)(R:X.ki=true)(aw:PI X tg D ad)(av:PG X tg Q)(g:iK X M ab)
  (az:∀x,foldedSetIterable D X.ag x=pure x:=by intro _;rfl):PS X (.For tg D M [] aC) (AJ ad Q ab):=by
 intro aa s ae H aS ai h;refine wpAny_For (bu (aw aa s ae H _ ai h) λv aW aq=>bu aq λaV aX ar=>?_) az;obtain⟨aU,p,ac,aT,af,e,aj,T,aJ,O,K,⟨aB,aM⟩,aL⟩:=ar;subst e;have G:∀{k:Hp},(∀b∈p,k b=none)->∀b∈p,ke X aa k b:=λay b g=>⟨ay b g,(O b g).2⟩
 refine codeAny_forLoop_any (λn S=>∃i y k,Inv X aa y k S/\ac i S.heap/\(∀b∈p,k b=none)/\K i n y k) ?_ aB ⟨0,ae,af,aj,aJ,λb g=>(O b g).1,aM⟩;rintro n V ⟨i,z,B,J,Y,P,aN⟩;rcases aL i n z B aN with ⟨aK,aE⟩|⟨ap,N,au,step⟩
 ·refine Xm q (bu (T.done X rfl rfl rfl R i aa V z B X.xe J (G P) Y aK) λr aH ⟨C,ak⟩=>?_);subst C;exact wpAny_execs_nil ⟨z,B,ak,aE⟩
 ·refine Xm q (bu (T.item X rfl rfl rfl R i aa V z B X.xe J (G P) Y ap) λr aH ⟨u,C,as⟩=>?_);subst C;refine Xm q (bu as λ_ W ⟨x,I,al,aF,aQ,F,ao⟩=>?_);have am:=al.E5 (G ao) (T.obj _ _ F);refine Xm q (bu (av _ W z I x u _ am aF (step x I aQ)) λ_ aI ⟨aR,ah,an,aD⟩=>?_);refine Xm q (bu (g _ aI aR ah _ an aD) λf E l=>?_);have L:∀{j:St}{a:Hp},Inv X (aa++sP p W.heap) j a E->N j a->∃m,m<n/\∃i y k,Inv X aa y k E/\ac i E.heap/\(∀b∈p,k b=none)/\K i m y k:=λ{j a} c t=>by
   obtain⟨aA,ax,aO⟩:=au j a t;refine⟨aA,ax,i+1,j,a,c.wQ,T.keep _ _ _ F λb g o e=>(c.j3 (b,o) (WC _ (WC _ (yW g e)))).1,λb g=>?_,aO⟩;obtain⟨o,e,d⟩:=T.obj _ _ F b g;exact(c.j3 (b,o) (WC _ (WC _ (yW g e)))).2.1
  cases f with
  |next=>obtain⟨j,a,c,t⟩:=l;exact L c t
  |cont=>obtain⟨j,a,c,t⟩:=l;exact L c t
  |brk=>obtain⟨j,a,c,l⟩:=l;exact⟨j,a,c.wQ,l⟩
  |ret v=>obtain⟨aP,j,a,c,aG,l⟩:=l;exact⟨aP,j,a,c.wQ,aG,l⟩
end
def TN{c:TT}{k:TS}{i:iI}{a:St}{H:Hp}(g:St->Hp->Prop)(h:St->Hp->Nat)(n:g a H)
  (o:∀a H,g a H->c a H λb e=>if b=true then k {i with nx:=λf d=>g f d/\h f d<h a H,ct:=λf d=>g f d/\h f d<h a H,bk:=i.nx} a e else i.nx a e)
  (r:∀a H Q j,(∀b e,Q b e->j b e)->c a H Q->c a H j):IX c k i a H:=by
 refine⟨λm a H=>m=h a H/\g a H,⟨_,rfl,n⟩,?_⟩;rintro m a H ⟨rfl,p⟩;refine r a H _ _ (λb e q=>?_) (o a H p);cases b with
 |true=>exact⟨_,λf d ⟨s,l⟩=>⟨_,l,rfl,s⟩,q⟩
 |false=>exact q
abbrev R2:=V->V->Hp->VK->Prop
def ee(X:Cx)(f:Value->Value->Sem Value)(r:R2):Prop:=
 ∀(aa:bK)(s:Shared)(a:St)(H:Hp)(x y:V)(v u:Value)(Q:VK),Inv X aa a H s->bM x v->bM y u->r x y H Q->
  wpAny (model X.prog X.w) X.A (f v u) (EP X aa a Q) X.xe s
def xw(X:Cx)(f:Value->Sem Value)(r:V->Hp->VK->Prop):Prop:=
 ∀(aa:bK)(s:Shared)(a:St)(H:Hp)(x:V)(v:Value)(Q:VK),Inv X aa a H s->bM x v->r x H Q->
  wpAny (model X.prog X.w) X.A (f v) (EP X aa a Q) X.xe s
def l9(X:Cx)(f:Value)(r:aQ->Hp->VK->Prop):Prop:=
 ∀(aa:bK)(s:Shared)(a:St)(H:Hp)(xs:aQ)(us:bD)(Q:VK),Inv X aa a H s->bH xs us->r xs H Q->
  wpAny (model X.prog X.w) X.A (call f us) (EP X aa a Q) X.xe s
def gu(r:R2)(d e:TE):TE:=λa H Q=>d a H λx b=>e a b λy c=>r x y c Q
def IW(r:V->Hp->VK->Prop)(b:TE):TE:=λc H Q=>b c H λx a=>r x a Q
def rI(C:Int->Int->Prop)(a:Int->Int->V):R2:=λx y H Q=>∃i j,x=.int i/\y=.int j/\C i j/\Q (a i j) H
def lu(a:Int->Int->V):R2:=λx y H Q=>∃i j,x=.int i/\y=.int j/\Q (a i j) H
def rU(a:Int->V):V->Hp->VK->Prop:=λx H Q=>∃i,x=.int i/\Q (a i) H
section
variable{X:Cx}{a b c:Expr}{ta tb tc:TE}{pos:Pos}
def xH(l:PE X a ta)(m:PE X b tb){aa:bK}{s:Shared}{d:St}{H:Hp}{R:V->V->Hp->Prop}(i:Inv X aa d H s)
  (h:ta d H λx g=>tb d g λy c=>R x y c){Q:ci}{f:Value->Value->Sem Value}
  (n:∀v u e x y c,Inv X aa d c e->bM x v->bM y u->R x y c->wpAny (model X.prog X.w) X.A (f v u) Q X.xe e):
  wpAny (model X.prog X.w) X.A (eval a X.ag) (λv z=>wpAny (model X.prog X.w) X.A (eval b X.ag) (λu B=>wpAny (model X.prog X.w) X.A (f v u) Q X.xe B) X.xe z) X.xe s:=by
 refine bu (l aa s d H _ i h) λv t ⟨x,g,j,q,o⟩=>?_;refine bu (m aa t d g _ j o) λu e ⟨y,c,k,r,p⟩=>?_;exact n v u e x y c k q r p
def bF{op:Operator}{r:R2}(i:ee X (binaryOp op) r)(f:PE X a ta)(g:PE X b tb):PE X (.BinOp a op b pos) (gu r ta tb):=by intro aa s m H Q d h;exact wpAny_BinOp (xH f g d h λv u l x y c e j k q=>i aa l m c x y v u Q e j k q)
def gX{op:UnaryOp}{r:V->Hp->VK->Prop}(g:xw X (unaryOp op) r)(f:PE X a ta):PE X (.UnaryOp op a pos) (IW r ta):=by intro aa s b H Q d h;exact UnaryOp_ (bu (f aa s b H _ d h) λv k ⟨x,c,e,j,i⟩=>g aa k b c x v Q e j i)
def EM{f:Value->Value->Sem Value}{C:Int->Int->Prop}{a:Int->Int->Int}
  (rule:∀(i j:Int)(b u:Tok)(s:Shared)(Q:ci)(E:ci),C i j->Q (.int (a i j) s.toks) {s with toks:=s.toks+1}->wpAny (model X.prog X.w) X.A (f (.int i b) (.int j u)) Q E s):
  ee X f (rI C λi j=>.int (a i j)):=by
 intro aa s k H x y v u Q c e g h;obtain⟨i,j,rfl,rfl,d,q⟩:=h;obtain⟨b,rfl⟩:=e;obtain⟨t',rfl⟩:=g;exact rule i j b t' s _ _ d ⟨.int (a i j),H,c.i6 _,⟨_,rfl⟩,q⟩
def EN{f:Value->Value->Sem Value}{a:Int->Int->Int}
  (rule:∀(i j:Int)(b u:Tok)(s:Shared)(Q:ci)(E:ci),Q (.int (a i j) s.toks) {s with toks:=s.toks+1}->wpAny (model X.prog X.w) X.A (f (.int i b) (.int j u)) Q E s):
  ee X f (lu λi j=>.int (a i j)):=by
 intro aa s g H x y v u Q c d e h;obtain⟨i,j,rfl,rfl,q⟩:=h;obtain⟨b,rfl⟩:=d;obtain⟨t',rfl⟩:=e;exact rule i j b t' s _ _ ⟨.int (a i j),H,c.i6 _,⟨_,rfl⟩,q⟩
def vN{f:Value->Value->Sem Value}{a:Int->Int->Bool}
  (rule:∀(i j:Int)(b u:Tok)(s:Shared)(Q:ci)(E:ci),Q (.bool (a i j)) s->wpAny (model X.prog X.w) X.A (f (.int i b) (.int j u)) Q E s):
  ee X f (lu λi j=>.bl (a i j)):=by
 intro aa s g H x y v u Q c d e h;obtain⟨i,j,rfl,rfl,q⟩:=h;obtain⟨b,rfl⟩:=d;obtain⟨t',rfl⟩:=e;exact rule i j b t' s _ _ ⟨.bl (a i j),H,c,rfl,q⟩
def je:ee X (binaryOp .Add) (lu λi j=>.int (i+j)):=EN λ_ _ _ _ _ _ _ q=>add_int q
def jg:ee X (binaryOp .Sub) (lu λi j=>.int (i-j)):=EN λ_ _ _ _ _ _ _ q=>sub_int q
def zm:ee X (binaryOp .Mod) (rI (λ_ j=>0<j) λi j=>.int (i%j)):=EM λi j _ _ _ _ _ a q=>by have b:(0:Int)<j:=a;exact mod_int' ⋯ (by rw[Int.fmod_eq_emod_of_nonneg i ⋯];exact q)
def Tt{f:Value->Sem Value}{a:Int->Int}
  (rule:∀(i:Int)(b:Tok)(s:Shared)(Q:ci)(E:ci),Q (.int (a i) s.toks) {s with toks:=s.toks+1}->wpAny (model X.prog X.w) X.A (f (.int i b)) Q E s):
  xw X f (rU λi=>.int (a i)):=by
 intro aa s e H x v Q c d h;obtain⟨i,rfl,q⟩:=h;obtain⟨b,rfl⟩:=d;exact rule i b s _ _ ⟨.int (a i),H,c.i6 _,⟨_,rfl⟩,q⟩
def g9:xw X (unaryOp .USub) (rU λi=>.int (-i)):=Tt λ_ _ _ _ _ q=>neg_int q
end
noncomputable def HL:V->V->Bool
 | .aO,.aO=>true| .aO,.int _=>true| .int _,.aO=>true| .aO,.bl _=>true| .bl _,.aO=>true| .aO,.str _=>true| .str _,.aO=>true
 | .int _,.int _=>true| .bl _,.bl _=>true| .str _,.str _=>true| .iN _,.iN _=>true
 | .int _,.str _=>true| .str _,.int _=>true| .bl _,.str _=>true| .str _,.bl _=>true
 |_,_=>false
def Fx:R2:=λx y H Q=>HL x y=true/\Q (.bl (decide (x=y))) H
def mQ:R2:=λx y H Q=>HL x y=true/\Q (.bl (!decide (x=y))) H
def B9{i j:Int}:decide (V.int i=V.int j)=(i==j):=by rw[WU];simp
def B7{i j:Bool}:decide (V.bl i=V.bl j)=(i==j):=by rw[WU];simp
def B_{i j:Str}:decide (V.str i=V.str j)=(i==j):=by rw[WU];simp
def B8{i j:Array UInt8}:decide (V.iN i=V.iN j)=(i.toList==j.toList):=by rw[WU];cases i;cases j;simp
section
variable{X:Cx}{a b c:Expr}{ta tb tc:TE}{pos:Pos}
def dL{aa:bK}{b:St}{H:Hp}{s:Shared}{Q:VK}{k a:Bool}(c:Inv X aa b H s)(q:Q (.bl k) H)(e:k=a):EP X aa b Q (.bool a) s:=by subst e;exact⟨.bl k,H,c,rfl,q⟩
def cp:ee X (compareOp .Eq) Fx:=by
 intro aa s f H x y v u Q a d b h;obtain⟨c,q⟩:=h;cases x with
 |aO=>
  cases d;cases y with
  |aO=>cases b;exact PySem.EqNone.eq_none_none (dL a q (by simp))
  |bl j=>cases b;exact PySem.EqNone.eq_none_bool (dL a q (by simp))
  |int j=>obtain⟨t',rfl⟩:=b;exact PySem.EqNone.eq_none_int (dL a q (by simp))
  |str j=>obtain⟨t',rfl⟩:=b;exact PySem.EqNone.eq_none_str (dL a q (by simp))
  |_=>exact absurd (show false=true from c) VG
 |bl i=>
  cases d;cases y with
  |aO=>cases b;exact PySem.EqNone.eq_bool_none (dL a q (by simp))
  |bl j=>cases b;exact eq_bool (dL a q B7)
  |str j=>obtain⟨t',rfl⟩:=b;exact PySem.EqMixed.eq_bool_str (dL a q (by simp))
  |_=>exact absurd (show false=true from c) VG
 |int i=>
  obtain⟨e,rfl⟩:=d;cases y with
  |aO=>cases b;exact PySem.EqNone.eq_int_none (dL a q (by simp))
  |int j=>obtain⟨t',rfl⟩:=b;exact eq_int (dL a q B9)
  |str j=>obtain⟨t',rfl⟩:=b;exact PySem.EqMixed.eq_int_str (dL a q (by simp))
  |_=>exact absurd (show false=true from c) VG
 |str i=>
  obtain⟨e,rfl⟩:=d;cases y with
  |aO=>cases b;exact PySem.EqNone.eq_str_none (dL a q (by simp))
  |bl j=>cases b;exact PySem.EqMixed.eq_str_bool (dL a q (by simp))
  |int j=>obtain⟨t',rfl⟩:=b;exact PySem.EqMixed.eq_str_int (dL a q (by simp))
  |str j=>obtain⟨t',rfl⟩:=b;exact eq_str (dL a q B_)
  |_=>exact absurd (show false=true from c) VG
 |iN i=>
  obtain⟨e,rfl⟩:=d;cases y with
  |iN j=>obtain⟨t',rfl⟩:=b;exact eq_bytes (dL a q B8)
  |_=>exact absurd (show false=true from c) VG
 |_=>cases y<;>exact absurd (show false=true from c) VG
def jf:ee X (compareOp .NotEq) mQ:=by
 intro aa s f H x y v u Q a d b h;obtain⟨c,q⟩:=h;cases x with
 |aO=>
  cases d;cases y with
  |aO=>cases b;exact PySem.EqNone.ne_none_none (dL a q (by simp))
  |bl j=>cases b;exact PySem.EqNone.ne_none_bool (dL a q (by simp))
  |int j=>obtain⟨t',rfl⟩:=b;exact PySem.EqNone.ne_none_int (dL a q (by simp))
  |str j=>obtain⟨t',rfl⟩:=b;exact PySem.EqNone.ne_none_str (dL a q (by simp))
  |_=>exact absurd (show false=true from c) VG
 |bl i=>
  cases d;cases y with
  |aO=>cases b;exact PySem.EqNone.ne_bool_none (dL a q (by simp))
  |bl j=>cases b;exact ne_bool (dL a q (Wk not B7))
  |str j=>obtain⟨t',rfl⟩:=b;exact PySem.EqMixed.ne_bool_str (dL a q (by simp))
  |_=>exact absurd (show false=true from c) VG
 |int i=>
  obtain⟨e,rfl⟩:=d;cases y with
  |aO=>cases b;exact PySem.EqNone.ne_int_none (dL a q (by simp))
  |int j=>obtain⟨t',rfl⟩:=b;exact ne_int (dL a q (Wk not B9))
  |str j=>obtain⟨t',rfl⟩:=b;exact PySem.EqMixed.ne_int_str (dL a q (by simp))
  |_=>exact absurd (show false=true from c) VG
 |str i=>
  obtain⟨e,rfl⟩:=d;cases y with
  |aO=>cases b;exact PySem.EqNone.ne_str_none (dL a q (by simp))
  |bl j=>cases b;exact PySem.EqMixed.ne_str_bool (dL a q (by simp))
  |int j=>obtain⟨t',rfl⟩:=b;exact PySem.EqMixed.ne_str_int (dL a q (by simp))
  |str j=>obtain⟨t',rfl⟩:=b;exact ne_str (dL a q (Wk not B_))
  |_=>exact absurd (show false=true from c) VG
 |iN i=>
  obtain⟨e,rfl⟩:=d;cases y with
  |iN j=>obtain⟨t',rfl⟩:=b;exact ne_bytes (dL a q (Wk not B8))
  |_=>exact absurd (show false=true from c) VG
 |_=>cases y<;>exact absurd (show false=true from c) VG
def mO:ee X (compareOp .Lt) (lu λi j=>.bl (decide (i<j))):=vN λ_ _ _ _ _ _ _ q=>lt_int q
def lP:ee X (compareOp .LtE) (lu λi j=>.bl (decide (i<=j))):=vN λ_ _ _ _ _ _ _ q=>le_int q
def iT:ee X (compareOp .Gt) (lu λi j=>.bl (decide (j<i))):=vN λ_ _ _ _ _ _ _ q=>gt_int q
def zk:ee X (compareOp .GtE) (lu λi j=>.bl (decide (j<=i))):=vN λ_ _ _ _ _ _ _ q=>ge_int q
def lh:ee X (compareOp .Is) (λx y H Q=>y=.aO/\Q (.bl (decide (x=.aO))) H):=by
 intro aa s e H x y v u Q b a c h;obtain⟨rfl,q⟩:=h;cases c;refine is_none_gen (dL b q ?_);cases x<;>first
  |(cases a;rfl)
  |(obtain⟨d,rfl⟩:=a;rfl)
def Ql:ee X (compareOp .IsNot) (λx y H Q=>y=.aO/\Q (.bl (!decide (x=.aO))) H):=by
 intro aa s e H x y v u Q b a c h;obtain⟨rfl,q⟩:=h;cases c;refine isnot_none_gen (dL b q ?_);cases x<;>first
  |(cases a;rfl)
  |(obtain⟨d,rfl⟩:=a;rfl)
def El(b:Expr){op:CmpOp}(h:op≠ .In:=by decide)(d:op≠ .NotIn:=by decide):behindInMarks op b=false:=by
 have a:(op==CmpOp.In)=false:=by cases op<;>first|rfl|exact absurd rfl h
 have c:(op==CmpOp.NotIn)=false:=by cases op<;>first|rfl|exact absurd rfl d
 cases b<;>simp[behindInMarks,a,c]
def oR{op:CmpOp}{r:R2}(j:ee X (compareOp op) r)(f:PE X a ta)(g:PE X b tb)(i:behindInMarks op b=false):PE X (.Compare a [op] [b] pos) (gu r ta tb):=by intro aa s n H Q d h;exact wpAny_Compare1 (xH f g d h λv u m x y c e k l q=>j aa m n c x y v u Q e k l q) i
def ph(b:TE):TT:=λc H Q=>b c H λx a=>∃k,x=.bl k/\Q k a
def vV{op:CmpOp}{r:R2}(t:ee X (compareOp op) r)(o:PE X a ta)(p:PE X b tb)(q:behindInMarks op b=false):PT X (.Compare a [op] [b] pos) (ph (gu r ta tb)):=by
 intro aa s d H Q j h;refine wpAny_isTrue_Compare1 (bu (o aa s d H _ j h) λv E ⟨x,f,l,B,w⟩=>bu (p aa E d f _ l w) λu F ⟨y,g,m,C,z⟩=>bu (t aa F d g x y v u _ m B C z) λc G ⟨I,i,n,D,k,e,A⟩=>?_) q
 subst e;cases D;exact Xv ⟨i,n,A⟩
def vz:(sizeLine:Nat)<2^63:=by rw[sizeLine_eq];decide
def qK{x:V}{us:bD}(r:bH [x] us):∃u,us=[u]/\bM x u:=by
 cases r with
 |cons a b=>cases b;exact⟨_,rfl,a⟩
def Ko:l9 X (.builtin "abs") (λxs H Q=>∃i,xs=[.int i]/\Q (.int (if i<0 then-i else i)) H):=by intro aa s c H xs us Q a r h;obtain⟨i,rfl,q⟩:=h;obtain⟨u,rfl,b,rfl⟩:=qK r;exact call_abs_int λu tk=>⟨.int (if i<0 then-i else i),H,a.i6 _,⟨_,rfl⟩,q⟩
end
structure oq(h:Heap)(x dx C:Addr)(mA:df):Prop where
 obj:h.get? x=some (instObj C dx)
 ns:h.Ns1 dx mA
 ne:dx≠x
def Oh{h:Heap}{b:Addr}{d:df}(n:h.Ns1 b d):∃f,h.get? b=some f/\∀name,lookIn name f=some (d name):=by
 obtain⟨o,c,r,m,i,j,_,l⟩:=n;refine⟨o,m,λname=>?_⟩;have e:=l name;unfold nsFind findBy at e;rw[<-Array.find?_toList] at e;unfold lookIn;rw[i];dsimp only;split
 ·rename_i y q;rw[q] at e;exact Wk some e
 ·rename_i q;rw[q] at e;have a:c.toList.any (·.refKey)=false:=by
   rw[List.any_eq_false];intro y p;obtain⟨t,s,k⟩:=j y (Array.mem_toList_iff.mp p);simp[DictEntry.refKey,k]
  have g:¬c.toList.any (·.refKey)=true:=by rw[a];exact VG
  rw[Vg g];exact Wk some e
def oq.qb{h:Heap}{x c C:Addr}{d:df}(b:oq h x c C d):∃a,InstAt h x (instObj C c) C (some a)/\∀name,lookIn name a=some (d name):=
 let ⟨a,f,e⟩:=Oh b.ns
 ⟨a,⟨b.obj,rfl,rfl,f⟩,e⟩
section
variable{prog:Program}{w:World}{A:Around}{E:ci}{s:Shared}{K:Frag}{x dx C f:Addr}{mA:df}{name:Str}{v:Value}
def Ny{c:Bool}{Q:ci}(X:K.In s.heap)(a:oq s.heap x dx C mA)(e:plainGet K C name=true)(f:hasDictIn K C=true)
  (d:findIn K (.ref C) name=some none)(i:mA name=some v)(j:handedIn v=true)(h:Q v {s with toks:=s.toks+1}):
  wpAny (model prog w) A (getAttr (.ref x) name c) Q E s:=by
 obtain⟨k,b,g⟩:=a.qb;exact get_value X b (plainGet_of e).1 (findObj_own f d rfl (by rw[g,i])) j h
def Nz{pl:Sem Bool}{Q:Value×bD->Shared->Prop}(X:K.In s.heap)(b:oq s.heap x dx C mA)(a:plainGet K C name=true)
  (d:findIn K (.ref C) name=some (some (.ref f)))(g:isFn K (.ref f)=true)(i:mA name=none)(h:Q (.ref f,[.ref x]) s):
  wpAny (model prog w) A (getMethod (.ref x) name pl) Q E s:=by
 obtain⟨j,c,e⟩:=b.qb;exact method_fn X c (plainGet_of a).1 (plainGet_of a).2 d (beq_iff_eq.mp g) (by show(lookIn name j).map (·.isSome)=some false;rw[e,i];rfl) h
def Sq{g:cR}{Q:Unit->Shared->Prop}(X:K.In s.heap)(c:oq s.heap x dx C mA)
  (p:findIn K (.ref C) "__setattr__"=some (some (.builtin "object.__setattr__")))(o:plainOver K C=true)(q:takerIn K C name=some none)(m:hasDictIn K C=true)
  (t:PySem.Within mA g)(hsz:g.length<=sizeLine)
  (h:∀h',oq h' x dx C (λy=>if y=name then some v else mA y)->Heap.SameBut dx s.heap h'->Q () {s with heap:=h',toks:=s.toks+2}):
  wpAny (model prog w) A (setAttr (.ref x) name v) Q E s:=by
 obtain⟨H,d,F⟩:=c.qb;refine set_plain X d p (osa_open (s:={s with toks:=s.toks+1}) (r:=none) X d o q λb=>?_);obtain⟨z,i,k⟩:=any_some m;have u:s.heap.get? x=some ⟨.ref C,some dx,.plain,#[]⟩:=c.obj;refine Vi (VL (Vi (Vi (wpAny_loadPart u (Vi (Looks.here (s:={s with toks:=s.toks+1}) (looks_clsIn X i) ?_))))));rw[k];refine VL (a:=some dx) (Vi (VL (Vi ?_)));refine wpAny_nsSet1 (s:={s with toks:=s.toks+1}) c.ns λh' e f=>?_;obtain⟨G,D,B,n,l,j⟩:=e.count (PySem.Within.cons name v t);refine Vi (wpAny_lookBehind n (by rw[l];exact pastItsLine_dict (Vy j (by rw[Vu];lia))) ?_);exact VL (h _ ⟨(f.2 _ (Ne.symm c.ne)).trans c.obj,e,c.ne⟩ f)
def Ou{R:Result->Shared->Prop}{vs:bD}{a:List (Str×Value)}(X:K.In s.heap)(e:makesIn K C=true)
  (c:findIn K (.ref C) "__init__"=some (some (.ref f)))(b:typeIn K (.ref f)=some (.type "function"))
  (h:codeAny (model prog w) (A.under (.builtin "type.__call__" ⟨.ref C::vs,a⟩)) (.call (.ref f) ⟨.ref (s.heap.objs.size+1)::vs,a⟩) (InitBack (s.heap.objs.size+1) R)
   {s with heap:=(s.heap.push emptyDict).push (instObj C s.heap.objs.size)}):
  codeAny (model prog w) A (.call (.ref C) ⟨vs,a⟩) R s:=by
 obtain⟨j,i,d,l,k⟩:=s;exact make_core (makes_of X e) (looks_findIn X c) (λg=>bind_fn X g b) (.inl rfl) h
end
def aD(f:Str)(v:V):cK->cK
 |[]=>[(f,v)]
 |(a,x)::r=>if a=f then (a,v)::r else (a,x)::aD f v r
theorem vA(f a:Str)(v:V):∀d:cK,(aD f v d).lookup a=if a=f then some v else d.lookup a
 |[]=>by
  show List.lookup a [(f,v)]=_;by_cases h:a=f
  ·have b:(a==f)=true:=beq_iff_eq.mpr h;simp only[List.lookup,b,Vh h]
  ·have b:(a==f)=false:=W8.mpr h;simp only[List.lookup,b,Vg h]
 |(k,x)::r=>by
  have g:=vA f a v r;rw[show aD f v ((k,x)::r)=(if k=f then (k,v)::r else (k,x)::aD f v r) from rfl];by_cases c:k=f
  ·rw[Vh c];by_cases h:a=k
   ·have b:(a==k)=true:=beq_iff_eq.mpr h;simp only[List.lookup,b,Vh (h.trans c)]
   ·have b:(a==k)=false:=W8.mpr h;simp only[List.lookup,b,Vg (λe:a=f=>h (e.trans c.symm))]
  ·rw[Vg c];by_cases h:a=k
   ·have b:(a==k)=true:=beq_iff_eq.mpr h;simp only[List.lookup,b,Vg (λe:a=f=>c (h.symm.trans e))]
   ·have b:(a==k)=false:=W8.mpr h;simp only[List.lookup,b];exact g
theorem yB(f:Str)(v:V):∀b:cK,f∈(aD f v b).map (·.1)/\∀a,a∈b.map (·.1)->a∈(aD f v b).map (·.1)
 |[]=>⟨by simp[aD],λa h=>by simp at h⟩
 |(k,x)::r=>by
  obtain⟨d,g⟩:=yB f v r;rw[show aD f v ((k,x)::r)=(if k=f then (k,v)::r else (k,x)::aD f v r) from rfl];by_cases c:k=f
  ·rw[Vh c];subst c;exact⟨by simp,λa h=>by simpa using h⟩
  ·rw[Vg c];refine⟨?_,λa h=>?_⟩
   ·rw[Vv];exact VI _ d
   ·rw[Vv] at h ⊢;rcases Vo.mp h with e|e
    ·exact Vo.mpr (.inl e)
    ·exact VI _ (g a e)
theorem yJ(f:Str)(v:V):∀a:cK,(aD f v a).length<=a.length+1
 |[]=>by simp[aD]
 |(k,x)::r=>by
  have c:=yJ f v r;rw[show aD f v ((k,x)::r)=(if k=f then (k,v)::r else (k,x)::aD f v r) from rfl];by_cases b:k=f
  ·rw[Vh b,Vu,Vu];lia
  ·rw[Vg b,Vu,Vu];lia
def iL.Ay{v:V}{o:jN}(r:iL (some v) o):∃u,o=some u/\bM v u:=by
 cases o with
 |none=>exact(show False from r).elim
 |some u=>exact⟨u,rfl,r⟩
def iL.OX{o:jN}(r:iL none o):o=none:=by
 cases o with
 |none=>rfl
 |some u=>exact(show False from r).elim
def NB{v:V}{u:Value}(r:bM v u):handedIn u=true:=by
 cases v with
 |aO=>cases (show u=Value.none from r);rfl
 |bl b=>cases (show u=Value.bool b from r);rfl
 |int i=>obtain⟨c,e⟩:=(show ∃c,u=Value.int i c from r);cases e;rfl
 |str x=>obtain⟨c,e⟩:=(show ∃c,u=Value.str x c from r);cases e;rfl
 |iN b=>obtain⟨c,e⟩:=(show ∃c,u=Value.bytes b c from r);cases e;rfl
 |uN b=>obtain⟨c,e⟩:=(show ∃c,u=Value.float b c from r);cases e;rfl
 |ref a=>cases (show u=Value.ref a from r);rfl
 |ty n=>cases (show u=Value.type n from r);rfl
section
variable{P:Program}{w:World}{H Z:Hp}{h h':Heap}{a C dx:Addr}{fs h_:cK}
def yu(c:dq P w H h)(e:H a=some (.aA C dx fs)):∃b,oq h a dx C b/\(∀f,iL (fs.lookup f) (b f))/\PySem.Within b (fs.map (·.1))/\fs.length<=1000/\H dx=some (.own a):=by
 obtain⟨d,j,g,i,b,n,r,q⟩:=(show ed P w H h a (.aA C dx fs) from c a _ e)
 exact⟨b,⟨i,n,g⟩,r,q,j,d⟩
end
structure dZ(K:Frag)(C:Addr):Prop where
 pg:plainGet K C Str.empty=true
 hd:hasDictIn K C=true
 po:plainOver K C=true
 sa:findIn K (.ref C) "__setattr__"=some (some (.builtin "object.__setattr__"))
def dZ.get{K:Frag}{C:Addr}(c:dZ K C)(f:Str):plainGet K C f=true:=c.pg
def cq(K:Frag)(C:Addr)(f:Str):Prop:=findIn K (.ref C) f=some none
def cq.Tc{K:Frag}{C:Addr}{f:Str}(n:cq K C f):takerIn K C f=some none:=by unfold takerIn;rw[show findIn K (.ref C) f=some none from n];rfl
structure qU(K:Frag)(C:Addr)(m:Str)(f:Addr):Prop where
 at_:findIn K (.ref C) m=some (some (.ref f))
 fn:isFn K (.ref f)=true
 kp:keepIn K (.ref f)=true
section
variable{X:Cx}{aa:bK}{U:St}{H:Hp}{s:Shared}{a C dx:Addr}{fs:cK}{f:Str}{v:V}{A:Around}{E:ci}
def Db{b:Bool}{Q:ci}(d:Inv X aa U H s)(e:H a=some (.aA C dx fs))(c:dZ X.K C)(n:cq X.K C f)(l:fs.lookup f=some v)
  (h:∀u i,Inv X aa U H i->bM v u->Q u i):wpAny (model X.prog X.w) A (getAttr (.ref a) f b) Q E s:=by
 obtain⟨m,j,r,_,_,_⟩:=yu d.aK e;obtain⟨u,k,g⟩:=iL.Ay (v:=v) (o:=m f) (by rw[<-l];exact r f);exact Ny d.jd j (c.get f) c.hd n k (NB g) (h u _ (d.i6 _) g)
def Dc{m:Str}{d:Addr}{pl:Sem Bool}{Q:Value×bD->Shared->Prop}(b:Inv X aa U H s)(e:H a=some (.aA C dx fs))(c:dZ X.K C)(k:qU X.K C m d)(l:fs.lookup m=none)
  (h:Q (.ref d,[.ref a]) s):wpAny (model X.prog X.w) A (getMethod (.ref a) m pl) Q E s:=by
 obtain⟨i,f,r,_,_,_⟩:=yu b.aK e;have g:i m=none:=iL.OX (by rw[<-l];exact r m);exact Nz b.jd f (c.get m) k.at_ k.fn g h
def HN{y:V}{u:Value}{Q:Unit->Shared->Prop}(g:Inv X aa U H s)(e:H a=some (.aA C dx fs))(c:dZ X.K C)(n:cq X.K C f)(J:fs.length<1000)(G:bM y u)
  (h:∀p,Inv X aa U (ai H a (.aA C dx (aD f y fs))) p->Q () p):wpAny (model X.prog X.w) A (setAttr (.ref a) f u) Q E s:=by
 obtain⟨m,i,r,t,_,l⟩:=yu g.aK e;have F:(fs.map (·.1)).length<=sizeLine:=by rw[Vn,sizeLine_eq];lia
 refine Sq g.jd i c.sa c.po n.Tc c.hd t F λh' j I=>h _ ?_;have B:∃o,h'.get? dx=some o:=let ⟨o,_,_,v,_⟩:=j.ns;⟨o,v⟩;refine g.eV (x:=a) (e:=dx) (by rw[e];exact True.intro) (.inr l) (λb q z k=>(I.2 b z).trans k) B ?_;refine⟨by rw[bA i.ne];exact l,?_,i.ne,j.obj,_,j.ns,λd=>?_,λd D=>?_⟩
 ·have:=yJ f y fs;lia
 ·show iL ((aD f y fs).lookup d) (if d=f then some u else m d);rw[vA];by_cases q:d=f
  ·rw[Vh q,Vh q];exact G
  ·rw[Vg q,Vg q];exact r d
 ·by_cases q:d=f
  ·rw[q];exact(yB f y fs).1
  ·refine(yB f y fs).2 d (t d λk=>D ?_);show(if d=f then some u else m d)=none;rw[Vg q];exact k
def Inv.made(f:Inv X aa U H s):Inv X aa U (ai (ai H s.heap.objs.size (.own (s.heap.objs.size+1))) (s.heap.objs.size+1) (.aA C s.heap.objs.size []))
  {s with heap:=(s.heap.push emptyDict).push (instObj C s.heap.objs.size)}:=by
 have c:(s.heap.push emptyDict).get? s.heap.objs.size=some emptyDict:=VM s.heap rfl;have h:((s.heap.push emptyDict).push (instObj C s.heap.objs.size)).get? (s.heap.objs.size+1)=some (instObj C s.heap.objs.size):=by have:=VM (s.heap.push emptyDict) (o:=instObj C s.heap.objs.size) rfl;rwa[Wb] at this
 have i:(s.heap.push emptyDict).Ns s.heap.objs.size (λ_=>none):=⟨emptyDict,#[],_,c,rfl,(λe j=>absurd j (by simp)),λ_=>rfl⟩
 have g:=f.jt (a:=s.heap.objs.size) (o:=.own (s.heap.objs.size+1)) (h':=s.heap.push emptyDict) (t':=s.toks) (λb u q=>Vk _ q) (Vm _) ⟨_,c⟩;refine g.jt (a:=s.heap.objs.size+1) (o:=.aA C s.heap.objs.size []) (t':=s.toks) (λb u q=>Vk _ q) (Nat.le_of_eq (Wb _ _)) ?_;have d:s.heap.objs.size≠s.heap.objs.size+1:=Wc (Nat.lt_succ_self _);refine⟨by rw[bA d,aS],We _,d,h,λ_=>none,(Heap.Ns1.of_empty i).at λo q=>Vk _ q,λ_=>True.intro,λy k=>absurd rfl k⟩
def JN{prog:Program}{w:World}{a:Env}{e:Expr}{f:Str}{c:Pos}{s:Shared}{Q:ci}(b:attributeBase e f a (eval e a)=eval e a)
  (h:wpAny (model prog w) A (eval e a) (λo d=>wpAny (model prog w) A (getAttr o f true) Q E d) E s):wpAny (model prog w) A (eval (.Attribute e f c) a) Q E s:=
 Attribute_any_ h (by rw[arm_eval_Attribute,b])
end
def wL(K:Frag)(e:TE)(f:Str):TE:=λg H Q=>e g H λx b=>∃a C d c v,x=.ref a/\b a=some (.aA C d c)/\dZ K C/\cq K C f/\c.lookup f=some v/\Q v b
def zT(K:Frag)(i j:TE)(f:Str):TS:=λg c H=>j c H λy h=>i c h λx d=>∃a C e b,x=.ref a/\d a=some (.aA C e b)/\dZ K C/\cq K C f/\b.length<1000/\
 g.nx c (ai d a (.aA C e (aD f y b)))
def xc(X:Cx)(op:Operator)(b:V->V->Hp->VK->Prop):Prop:=
 ∀(aa:bK)(s:Shared)(a:St)(H:Hp)(x y:V)(u v:Value)(Q:VK),Inv X aa a H s->bM x u->bM y v->b x y H Q->wpAny (model X.prog X.w) X.A (inplaceOp op u v) (EP X aa a Q) X.xe s
def zU(K:Frag)(m n:TE)(l:V->V->Hp->VK->Prop)(f:Str):TS:=λi c H=>m c H λx d=>∃a C k h v,x=.ref a/\d a=some (.aA C k h)/\dZ K C/\cq K C f/\h.lookup f=some v/\
 n c d λy j=>l v y j λo e=>∃g b,e a=some (.aA C g b)/\b.length<1000/\i.nx c (ai e a (.aA C g (aD f o b)))
section
variable{X:Cx}{o e value:Expr}{f:Str}{pos ie gP:Pos}{ta tv:TE}
def Qx(o:PE X e ta)(m:attributeBase e f X.ag (eval e X.ag)=eval e X.ag):PE X (.Attribute e f pos) (wL X.K ta f):=by intro aa s t H Q d h;refine JN m (bu (o aa s t H _ d h) λu z ⟨x,b,g,r,a,C,w,y,v,k,j,c,n,l,q⟩=>?_);subst k;obtain rfl:u=Value.ref a:=r;exact Db g j c n l λB A i p=>⟨v,b,i,p,q⟩
def Q8(p:PE X o ta)(t:PE X value tv)(r:swapsWith value (some (.Attribute o f ie)) pos.line X.ag=pure false):PS X (.Assign [.Attribute o f ie] value pos) (zT X.K ta tv f):=by intro aa s b H D e h;refine plainObj_wpAny_Assign_Attribute (bu (t aa s b H _ e h) λu B ⟨y,d,g,A,q⟩=>bu (p aa B b d _ g q) λv I ⟨x,E,i,z,a,C,F,G,m,k,c,n,l,w⟩=>?_) r;subst m;obtain rfl:v=Value.ref a:=z;exact HN i k c n l A λJ j=>⟨b,_,j,w⟩
def Q9{op:Operator}{d:V->V->Hp->VK->Prop}(A:PE X o ta)(D:PE X value tv)(B:xc X op d):PS X (.AugAssign (.Attribute o f gP) op value pos) (zU X.K ta tv d f):=by intro aa s b H R i h;refine wpAny_AugAssign_AttributeAny (bu (A aa s b H _ i h) λF ac ⟨x,e,j,L,a,C,T,Y,v,z,t,c,n,l,q⟩=>?_);subst z;obtain rfl:F=Value.ref a:=L;refine Db j t c n l λu O k J=>bu (D aa O b e _ k q) λQ P ⟨y,g,m,M,G⟩=>bu (B aa P b g v y u Q _ m J M G) λaf ad ⟨ag,S,p,N,W,ab,w,E,I⟩=>?_;exact HN p w c n E N λae r=>⟨b,_,r,I⟩
def Fw:V->V->Hp->VK->Prop:=λx y H Q=>∃i j,x=.int i/\y=.int j/\Q (.int (i+j)) H
def uY:xc X .Add Fw:=by
 rintro aa s e H x y u v Q b c d ⟨i,j,rfl,rfl,q⟩;obtain⟨a,rfl⟩:=(show ∃a,u=Value.int i a from c)
 obtain⟨t',rfl⟩:=(show ∃t',v=Value.int j t' from d)
 exact PyProof.Rows.iadd_int ⟨.int (i+j),H,b.i6 _,⟨_,rfl⟩,q⟩
end
structure db(k:Nat)(A:Around):Prop where
 hd:A.handled=none
 dp:A.depth+3*k+5<recursionLimit
 un:A.units+16*k+200<cLine
def db.aF{j k:Nat}{A:Around}(r:db k A)(h:j<=k):db j A:=⟨r.hd,by have:=r.dp;lia,by have:=r.un;lia⟩
def db.deeper{k:Nat}{A:Around}(r:db (k+1) A)(a:Env):db k (A.deeper a):=
 ⟨r.hd,by have:=r.dp;show A.depth+1+3*k+5<_;lia,by have:=r.un;show A.units+3+16*k+200<_;lia⟩
def Ot{A:Around}{C:Addr}{us:bD}{a:List (Str×Value)}:(A.under (.builtin "type.__call__" ⟨.ref C::us,a⟩)).depth=A.depth+1:=by first|rfl|simp[Around.under,Code.weight,Code.isCreation,Code.isGuard,Code.isCaller,Code.frames,Code.isFrame,guardIds]
def Ov{A:Around}{C:Addr}{us:bD}{a:List (Str×Value)}:(A.under (.builtin "type.__call__" ⟨.ref C::us,a⟩)).units=A.units+1:=by first|rfl|simp[Around.under,Code.cUnits,Code.frames,Code.isFrame]
def db.yT{k:Nat}{A:Around}(r:db (k+1) A)(C:Addr)(us:bD)(a:List (Str×Value)):db k (A.under (.builtin "type.__call__" ⟨.ref C::us,a⟩)):=
 ⟨r.hd,by have:=r.dp;rw[Ot];omega,by have:=r.un;rw[Ov];omega⟩
def db.depth{k:Nat}{A:Around}(r:db k A):A.depth<recursionLimit:=by have:=r.dp;lia
def db.units{k:Nat}{A:Around}(r:db k A):A.units+64<cLine:=by have:=r.un;lia
def eU:TA:=λ_ H Q=>Q [] H
def dD(d:TE)(e:TA):TA:=λa H Q=>d a H λx b=>e a b λxs c=>Q (x::xs) c
section
variable{X:Cx}{e:Expr}{es:en}{te:TE}{t:TA}{pos:Pos}
def j1:PA X [] eU:=λ_ _ _ _ H Q a h=>Calls.spliced_nil ⟨[],H,a,.nil,h⟩
def f9(i:PE X e te)(j:PA X es t)(k:starEach (e::es) X.ag=(false,eval e X.ag)::starEach es X.ag:=by rfl):PA X (e::es) (dD te t):=by intro pos aa s a H Q d h;rw[k];show wpAny _ _ (spliced ((false,eval e X.ag)::backTo pos (starEach es X.ag))) _ _ s;refine Calls.spliced_cons (bu (i aa s a H _ d h) λu p ⟨x,b,f,n,l⟩=>?_);exact bu (j pos aa p a b _ f l) λus q ⟨xs,c,g,o,m⟩=>⟨x::xs,c,g,.cons n o,m⟩
def wM(t:TA):TE:=λb H Q=>t b H λxs a=>xs.length<=sizeLine/\∀p,a p=none->Q (.ref p) (ai a p (.aN xs))
def AK(t:TA):TE:=λb H Q=>t b H λxs a=>xs.length<=sizeLine/\∀p,a p=none->Q (.ref p) (ai a p (.aq xs))
def dC{k}(h:PA X es t):PE X (.Tuple es k pos) (wM t):=by intro aa s l H Q g j;refine wpAny_Tuple_spliced (bu (h pos aa s l H _ g j) λus a ⟨xs,c,d,r,f,q⟩=>⟨by rw[<-r.length];exact f,?_⟩);have i:c a.heap.objs.size=none:=d.aK.dP (Vm _);refine⟨.ref a.heap.objs.size,ai c a.heap.objs.size (.aN xs),d.jt (t':=a.toks) (λb u e=>Vk _ e) (Vm _) ?_,rfl,q _ i⟩;exact⟨f,us,r,⟨_,VM _ rfl,rfl,_,rfl⟩⟩
def dk(h:PA X es t):PE X (.List es pos) (AK t):=by intro aa s k H Q g j;refine wpAny_List_spliced (bu (h pos aa s k H _ g j) λus a ⟨xs,c,d,r,f,q⟩=>⟨by rw[<-r.length];exact f,?_⟩);have i:c a.heap.objs.size=none:=d.aK.dP (Vm _);refine⟨.ref a.heap.objs.size,ai c a.heap.objs.size (.aq xs),d.jt (t':=a.toks) (λb u e=>Vk _ e) (Vm _) ?_,rfl,q _ i⟩;exact⟨f,us,0,r,VM _ rfl⟩
end
abbrev Sp:=aQ->Hp->VK->XK->Prop
abbrev jG:=List Env->Hp->Shared->XK->Value->Shared->Prop
structure og(P:Program)(w:World)(K:Frag)(mg:df)(ah:Heap)(A:Around)(aH:List Env)(s:Shared)(H:Hp):Prop where
 frames:A.frames=some aH
 mod:Mod K mg ah
 bs:∀b o,ah.get? b=some o->s.heap.get? b=some o/\H b=none
 mj:ah.objs.size<=s.heap.objs.size
 ku:s.heap.FunFrames ah aH
 oH:∀b∈k7 aH,H b=none
 aK:dq P w H s.heap
 gi:AllBare s.gens
def CE(c:List Env)(P:Program)(w:World)(H:Hp)(s:Shared)(Q:VK)(u:Value)(a:Shared):Prop:=
 ∃v b,a.os=s.os/\AllBare a.gens/\Un (k7 c) [] H b s.heap a.heap/\dq P w b a.heap/\bM v u/\Q v b
def CR(CX:jG)(a:List Env)(P:Program)(w:World)(H:Hp)(s:Shared)(Q:VK)(E:XK)(r:Result)(b:Shared):Prop:=
 match r with
 | .ok (.ret u)=>CE a P w H s Q u b
 | .ok _=>False
 | .error e=>CX a H s E e b
structure gw(P:Program)(w:World)(K:Frag)(mg:df)(ah:Heap)(CX:jG)(k:Nat)(f:Addr)(fd:FuncData)(ps:cR)(sp:Sp):Prop where
 aC:∀vs H Q E,sp vs H Q E->vs.length=ps.length
 run:∀(A:Around)(aH:List Env)(s:Shared)(H:Hp)(args:Args)(us:bD)(vs:aQ)(Q:VK)(E:XK),db k A->og P w K mg ah A aH s H->BindsTo s fd args (ps.zip us)->bH vs us->sp vs H Q E->
  codeAny (model P w) A (.call (.ref f) args) (CR CX aH P w H s Q E) s
def gw.aF{P:Program}{w:World}{K:Frag}{d:df}{b:Heap}{CX:jG}{j k:Nat}{f:Addr}{c:FuncData}{ps:cR}{sp:Sp}(a:gw P w K d b CX j f c ps sp)(h:j<=k):
  gw P w K d b CX k f c ps sp:=⟨a.aC,λA g s H args us vs Q E e=>a.run A g s H args us vs Q E (e.aF h)⟩
def og.yT{P:Program}{w:World}{K:Frag}{b:df}{a:Heap}{A:Around}{c:List Env}{s:Shared}{H:Hp}(e:og P w K b a A c s H)(C:Addr)(us:bD)(d:List (Str×Value)):
  og P w K b a (A.under (.builtin "type.__call__" ⟨.ref C::us,d⟩)) c s H:=⟨by first|exact e.frames|(simpa[Around.under,Code.envs,Code.isFrame,pushEnvs] using e.frames),e.mod,e.bs,e.mj,e.ku,e.oH,e.aK,e.gi⟩
section
variable{X:Cx}{aa:bK}{U:St}{H:Hp}{s s':Shared}
def Inv.Cn(a:Inv X aa U H s):og X.prog X.w X.K X.mg X.ah X.A X.g6 s H:=
 ⟨a.ok.frames,a.ok.mod,a.bs,Vy a.ok.mj a.sz,a.g6,a.Ix,a.aK,a.gi⟩
def Inv.after{Q:VK}{u:Value}(c:Inv X aa U H s)(h:CE X.g6 X.prog X.w H s Q u s'):EP X aa U Q u s':=by obtain⟨v,a,j,e,m,i,r,q⟩:=h;obtain⟨g,f,d,l,k⟩:=s';obtain rfl:k=s.os:=j;exact⟨v,a,c.call (h':=g) (g':=f) (d':=d) (t':=l) (ch:=[]) m i e (λb n=>absurd n (by simp)),r,q⟩
end
def lX(sp:Sp)(b:aQ)(E:XK)(c:TA):TE:=λd H Q=>c d H λvs a=>sp (vs++b) a Q E
def tF(C:Addr)(m:Str)(sp:Sp)(f:aQ)(E:XK)(i:TE)(h:TA):TE:=λd H Q=>i d H λx b=>∃a g c,x=.ref a/\b a=some (.aA C g c)/\c.lookup m=none/\
 h d b λvs e=>sp (x::(vs++f)) e Q E
def tE(C:Addr)(sp:Sp)(d:aQ)(E:XK)(e:TA):TE:=λf H Q=>e f H λvs b=>∀x a,b x=none->b a=none->a≠x->
 sp (.ref x::(vs++d)) (ai (ai b a (.own x)) x (.aA C a [])) (λv c=>v=.aO/\Q (.ref x) c) E
def iG(K:Frag)(b:FuncData)(ps:cR)(a:bD):Prop:=
 ∀(s:Shared)(us:bD),K.In s.heap->(us++a).length=ps.length->BindsTo s b ⟨us,[]⟩ (ps.zip (us++a))
def iG.all{K:Frag}{a:FuncData}{ps:cR}(h:∀us:bD,us.length=ps.length->bindArgs a ⟨us,[]⟩=pure (ps.zip us)):iG K a ps []:=λs us _ b=>by rw[Wo] at b ⊢;exact .of_eq (h us b)
def m_(CX:jG)(X:Cx)(E:XK):Prop:=∀(aa:bK)(b:St)(H:Hp)(s:Shared)(e:Value)(a:Shared),Inv X aa b H s->CX X.g6 H s E e a->X.xe e a
section
variable{X:Cx}{CX:jG}{k:Nat}{f C:Addr}{fd:FuncData}{ps:cR}{sp:Sp}{fL:aQ}{ds:bD}{E:XK}{x m:Str}{p pos fH:Pos}{e o:Expr}{es:en}{ta:TE}{t:TA}
def zS{aa:bK}{c:St}{H:Hp}{s:Shared}{Q:VK}{us:bD}{vs:aQ}(d:gw X.prog X.w X.K X.mg X.ah CX k f fd ps sp)(n:db k X.A)(j:iG X.K fd ps ds)(l:bH fL ds)(o:m_ CX X E)
  (b:Inv X aa c H s)(r:bH vs us)(h:sp (vs++fL) H Q E):wpAny (model X.prog X.w) X.A (call (.ref f) us) (EP X aa c Q) X.xe s:=by
 have g:bH (vs++fL) (us++ds):=r.append l;have m:(us++ds).length=ps.length:=by rw[<-g.length];exact d.aC _ _ _ _ h
 refine wpAny_call (codeAny_mono (d.run X.A X.g6 s H ⟨us,[]⟩ (us++ds) (vs++fL) Q E n b.Cn (j s us b.jd m) g h) λr p a=>?_);cases r with
 |error e=>exact o aa c H s e p b a
 |ok i=>
  cases i with
  |ret u=>exact b.after a
  |next=>exact False.elim a
  |brk=>exact False.elim a
  |cont=>exact False.elim a
def Qu(c:gw X.prog X.w X.K X.mg X.ah CX k f fd ps sp)(v:db k X.A)(m:Gl X x)(o:X.mg x=some (.ref f))(n:keepIn X.K (.ref f)=true)(g:iG X.K fd ps ds)(i:bH fL ds)(y:m_ CX X E)
  (d:PA X (e::es) t)(j:(x==("__debug__":Str))=false:=by decide)(l:starEach (e::es) X.ag=(false,eval e X.ag)::starEach es X.ag:=by rfl)(u:(backTo pos (starEach es X.ag)).any (·.1)=false:=by rfl):
  PE X (.Call (.Name x p) (e::es) [] pos) (lX sp fL E t):=by
 intro aa s z H Q a h;refine Xn (vv a m o ?_ j);refine callWith_K (h₀:=X.ah) a.ok.mod.sh n (bu (d pos aa s z H _ a h) λus C ⟨vs,B,b,r,q⟩=>⟨b.jd,?_⟩) l u;exact zS c v g i y b r q
def QD{pl:Sem Bool}(G:PE X o ta)(c:dZ X.K C)(i:qU X.K C m f)(p:gw X.prog X.w X.K X.mg X.ah CX k f fd ps sp)(J:db k X.A)(D:iG X.K fd ps ds)(F:bH fL ds)(N:m_ CX X E)(B:PA X (e::es) t)
  (L:starEach (e::es) X.ag=(false,eval e X.ag)::starEach es X.ag:=by rfl)(I:(backTo pos (starEach es X.ag)).any (·.1)=false:=by rfl)
  (M:eval (.Call (.Attribute o m fH) (e::es) [] pos) X.ag=(do
   let j<-eval o X.ag
   standAt fH.atName
   let (f,first)<-holding [j] (getMethod j m pl)
   callWith pos f first (backTo pos (starEach (e::es) X.ag)) (backToKw pos (keywordEach [] X.ag))):=by rfl):
  PE X (.Call (.Attribute o m fH) (e::es) [] pos) (tF C m sp fL E ta t):=by
 intro aa s n H Q b h;refine methodCall_KW (pl:=pl) (bu (G aa s n H _ b h) λu R ⟨x,v,d,P,a,T,V,z,y,l,q⟩=>?_) M;subst z;obtain rfl:u=Value.ref a:=P;refine Dc d y c i l ?_;refine callWith_K (first:=[.ref a]) (h₀:=X.ah) b.ok.mod.sh i.kp (bu (B pos aa R n v _ d q) λus W ⟨vs,S,g,r,O⟩=>⟨g.jd,?_⟩) L I;exact zS (us:=.ref a::us) (vs:=.ref a::vs) p J D F N g (.cons rfl r) O
def QE{pl:Sem Bool}(t:PE X o ta)(c:dZ X.K C)(d:qU X.K C m f)(g:gw X.prog X.w X.K X.mg X.ah CX k f fd ps sp)(v:db k X.A)(p:iG X.K fd ps ds)(r:bH fL ds)(z:m_ CX X E)
  (y:eval (.Call (.Attribute o m fH) [] [] pos) X.ag=(do
   let e<-eval o X.ag
   standAt fH.atName
   let (f,first)<-holding [e] (getMethod e m pl)
   callWith pos f first (backTo pos (starEach [] X.ag)) (backToKw pos (keywordEach [] X.ag))):=by rfl):
  PE X (.Call (.Attribute o m fH) [] [] pos) (tF C m sp fL E ta eU):=by
 intro aa s D H Q i h;refine methodCall_KW (pl:=pl) (bu (t aa s D H _ i h) λu J ⟨x,F,b,B,a,G,I,n,j,l,q⟩=>?_) y;subst n;obtain rfl:u=Value.ref a:=B;refine Dc b j c d l ?_;exact callWith_K0 (first:=[.ref a]) b.jd d.kp (zS (us:=[.ref a]) (vs:=[.ref a]) g v p r z b (.cons rfl .nil) q)
structure Mk(K:Frag)(C f:Addr):Prop where
 Ow:makesIn K C=true
 NG:findIn K (.ref C) "__init__"=some (some (.ref f))
 fn:isFn K (.ref f)=true
 kp:keepIn K (.ref C)=true
def FS{aa:bK}{g:St}{H:Hp}{s:Shared}{Q:VK}{us:bD}{vs:aQ}(M:Mk X.K C f)(i:gw X.prog X.w X.K X.mg X.ah CX k f fd ps sp)(z:db (k+1) X.A)(q:iG X.K fd ps ds)(t:bH fL ds)
  (B:m_ CX X E)(b:Inv X aa g H s)(r:bH vs us)
  (h:∀x d,H x=none->H d=none->d≠x->sp (.ref x::(vs++fL)) (ai (ai H d (.own x)) x (.aA C d [])) (λv n=>v=.aO/\Q (.ref x) n) E):
  wpAny (model X.prog X.w) X.A (call (.ref C) us) (EP X aa g Q) X.xe s:=by
 have j:=h (s.heap.objs.size+1) s.heap.objs.size (b.aK.dP (Nat.le_succ _)) (b.aK.dP (Vm _)) (Wc (Nat.lt_succ_self _));have c:=Inv.made (C:=C) b;have l:bH (V.ref (s.heap.objs.size+1)::(vs++fL)) (Value.ref (s.heap.objs.size+1)::(us++ds)):=.cons rfl (r.append t);have y:(Value.ref (s.heap.objs.size+1)::us++ds).length=ps.length:=by have e:=l.length;rw[i.aC _ _ _ _ j] at e;exact e.symm
 refine wpAny_call (Ou (f:=f) b.jd M.Ow M.NG (beq_iff_eq.mp M.fn) (codeAny_mono (i.run _ X.g6 _ _ ⟨Value.ref (s.heap.objs.size+1)::us,[]⟩ (Value.ref (s.heap.objs.size+1)::(us++ds)) _ _ E (z.yT C us [])
  (c.Cn.yT C us []) (q _ (Value.ref (s.heap.objs.size+1)::us) c.jd y) l j) λr G a=>?_))
 cases r with
 |error e=>exact B aa g _ _ e G c a
 |ok p=>
  cases p with
  |ret u=>obtain⟨v,m,o,F,ev,D⟩:=c.after a;subst ev;exact⟨F,⟨V.ref (s.heap.objs.size+1),m,o,rfl,D⟩⟩
  |next=>exact False.elim a
  |brk=>exact False.elim a
  |cont=>exact False.elim a
def QA(M:Mk X.K C f)(c:gw X.prog X.w X.K X.mg X.ah CX k f fd ps sp)(u:db (k+1) X.A)(m:Gl X x)(n:X.mg x=some (.ref C))(g:iG X.K fd ps ds)(i:bH fL ds)(v:m_ CX X E)
  (d:PA X (e::es) t)(j:(x==("__debug__":Str))=false:=by decide)(l:starEach (e::es) X.ag=(false,eval e X.ag)::starEach es X.ag:=by rfl)(o:(backTo pos (starEach es X.ag)).any (·.1)=false:=by rfl):
  PE X (.Call (.Name x p) (e::es) [] pos) (tE C sp fL E t):=by
 intro aa s y H Q a h;refine Xn (vv a m n ?_ j);refine callWith_K (h₀:=X.ah) a.ok.mod.sh M.kp (bu (d pos aa s y H _ a h) λus B ⟨vs,z,b,r,q⟩=>⟨b.jd,?_⟩) l o;exact FS M c u g i v b r q
def QB(M:Mk X.K C f)(b:gw X.prog X.w X.K X.mg X.ah CX k f fd ps sp)(j:db (k+1) X.A)(g:Gl X x)(i:X.mg x=some (.ref C))(c:iG X.K fd ps ds)(d:bH fL ds)(l:m_ CX X E)
  (e:(x==("__debug__":Str))=false:=by decide):PE X (.Call (.Name x p) [] [] pos) (tE C sp fL E eU):=by
 intro aa s m H Q a h;refine Xn (vv a g i ?_ e);exact callWith_K0 a.jd M.kp (FS (us:=[]) M b j c d l a .nil h)
end
def PK(X:Cx)(b:List Keyword)(d:TA):Prop:=
 ∀(c:Pos)(aa:bK)(s:Shared)(a:St)(H:Hp)(Q:aQ->Hp->Prop),Inv X aa a H s->d a H Q->wpAny (model X.prog X.w) X.A (evalAll ((backToKw c (keywordEach b X.ag)).map (·.2))) (AP X aa a Q) X.xe s
section
variable{X:Cx}{CX:jG}{k:Nat}{f C:Addr}{fd:FuncData}{ps ks:cR}{sp:Sp}{E:XK}{x m:Str}{p pos fH vj:Pos}{e o:Expr}{es:en}{oJ:List Keyword}{te ta:TE}{t tk:TA}{nm:Option Str}
def QQ:PK X [] eU:=λ_ _ _ _ H Q a h=>wpAny_evalAll_nil ⟨[],H,a,.nil,h⟩
def QP(i:PE X e te)(j:PK X oJ t):PK X (⟨nm,e,vj⟩::oJ) (dD te t):=by intro pos aa s a H Q d h;show wpAny _ _ (evalAll ((do let v<-eval e X.ag;standAt pos;pure v)::(backToKw pos (keywordEach oJ X.ag)).map (·.2))) _ _ s;refine wpAny_evalAll_cons (Vi (bu (i aa s a H _ d h) λu o ⟨x,b,f,m,k⟩=>Vi (wpAny_standAt (VL ?_))));exact bu (j pos aa o a b _ f k) λus p ⟨xs,c,g,n,l⟩=>⟨x::xs,c,g,.cons m n,l⟩
variable{g:bD->bD->bD}{gV:aQ->aQ->aQ}
end
structure bd(N P:cR)(sc:Scope):Prop where
 kind:sc.kind=.function
 co:sc.isCoroutine=false
 Nv:sc.isGenerator=false
 nd:N.Nodup
 pre:N.take P.length=P
 EU:∀x∈P,sc.names.lookup x=some .local\/sc.names.lookup x=some .cell
 OV:∀y∈sc.names,y.2≠ .free
theorem Bw{c:Str->Option NameKind}{x:Str}:∀{a:List (Str×Value)}{m:df},(∀v,(x,v)∉a)->bindL c a m x=m x
 |[],_,_=>rfl
 |(n,v)::r,m,h=>by
  unfold bindL;rw[Bw λw b=>h w (VI _ b)];split
  ·have:x≠n:=by rintro rfl;exact h v VY
   simp[this]
  ·rfl
theorem Bu{c:Str->Option NameKind}{x:Str}:∀{a:List (Str×Value)}{m:df},(∀v,(x,v)∉a)->bindC c a m x=m x
 |[],_,_=>rfl
 |(n,v)::r,m,h=>by
  unfold bindC;rw[Bu λw b=>h w (VI _ b)];split
  ·rfl
  ·have:x≠n:=by rintro rfl;exact h v VY
   simp[this]
theorem Bv{c:Str->Option NameKind}{x:Str}{v:Value}:∀{P:cR}{vs:bD}{i:Nat}{m:df},P.Nodup->P[i]? =some x->vs[i]? =some v->c x=some .local->
  bindL c (P.zip vs) m x=some v
 |[],_,_,_,_,h,_,_=>by simp at h
 |_::_,[],_,_,_,_,h,_=>by simp at h
 |p::P,w::vs,0,m,e,a,b,d=>by simp at a b;subst a;subst b;show bindL c ((p,w)::P.zip vs) m p=_;unfold bindL;rw[Bw λv f=>(WT.mp e).1 (WL f).1,Vh d];simp
 |p::P,w::vs,i+1,m,e,a,b,d=>by show bindL c ((p,w)::P.zip vs) m x=_;unfold bindL;exact Bv (i:=i) (WT.mp e).2 (by simpa using a) (by simpa using b) d
theorem Bs{c:Str->Option NameKind}{x:Str}{v:Value}:∀{P:cR}{vs:bD}{i:Nat}{m:df},P.Nodup->P[i]? =some x->vs[i]? =some v->c x≠some .local->
  bindC c (P.zip vs) m x=some v
 |[],_,_,_,_,h,_,_=>by simp at h
 |_::_,[],_,_,_,_,h,_=>by simp at h
 |p::P,w::vs,0,m,e,a,b,d=>by simp at a b;subst a;subst b;show bindC c ((p,w)::P.zip vs) m p=_;unfold bindC;rw[Bu λv f=>(WT.mp e).1 (WL f).1,Vg d];simp
 |p::P,w::vs,i+1,m,e,a,b,d=>by show bindC c ((p,w)::P.zip vs) m x=_;unfold bindC;exact Bs (i:=i) (WT.mp e).2 (by simpa using a) (by simpa using b) d
def start(N:cR)(vs:aQ):St:=vs.map some++List.replicate (N.length-vs.length) none
noncomputable def kU(CX:jG)(P:Program)(w:World)(K:Frag)(mg:df)(ah:Heap)(N:cR)(qual:Str)(scope:Scope)(f:Addr)(cd:Value)(A:Around)(aH:List Env)(s:Shared)(H:Hp)(E:XK):Cx where
 prog:=P
 w:=w
 K:=K
 mg:=mg
 ah:=ah
 A:=A.deeper (envOfC qual scope s.heap.objs.size f cd)
 N:=N
 gN:=s
 qS:=H
 ag:=envOfC qual scope s.heap.objs.size f cd
 aH:=aH
 g6:=envOfC qual scope s.heap.objs.size f cd::aH
 ex:=[]
 ki:=true
 fn:=λ_=>true
 pn:=[]
 xe:=λe s'=>wpAny (model P w) (A.deeper (envOfC qual scope s.heap.objs.size f cd)) (leaving (envOfC qual scope s.heap.objs.size f cd) e) (λ_ s''=>CX aH H s E e s'') (λe' s''=>CX aH H s E e' s'') s'
def BP{a:Scope}{n:Nat}{x:Str}(h:a.names.lookup x=some .cell):∃c,(cellsFrom n a.names []).lookup x=some c:=by have q:=cellsFrom_some a.names n [] (.inl h);exact Option.isSome_iff_exists.mp q
def NI{CX:jG}{P:Program}{w:World}{K:Frag}{G:df}{F:Heap}{N ps:cR}{D:Str}{j:Scope}{f:Addr}{z:Value}{A:Around}{J:List Env}{s Q:Shared}{H:Hp}{E:XK}{us:bD}{vs:aQ}
  (l:bd N ps j)(S:A.handled=none)(g:og P w K G F A J s H)(W:vs.length=ps.length)(r:bH vs us)
  (x:InCallC s s.heap.objs.size (bindL (envOfC D j s.heap.objs.size f z).kindOf (ps.zip us) λ_=>none) (cellsFrom (s.heap.objs.size+1) j.names []) (bindC (envOfC D j s.heap.objs.size f z).kindOf (ps.zip us) λ_=>none) Q):
  Inv (kU CX P w K G F N D j f z A J s H E) [] (start N vs) H Q:=by
 have X:ps.length<=N.length:=by have:=Wk List.length l.pre;rw[V0] at this;lia
 obtain⟨B,tk,rfl,L⟩:=x.done;have I:∀b:Addr,b∉(kU CX P w K G F N D j f z A J s H E).ex:=λb o=>absurd (show b∈([]:bL) from o) (by simp);refine⟨⟨g.mod,l.kind,rfl,rfl,Vm _,λy o c B d=>?_,λy m=>?_,λy c _ h=>?_,λ_=>S,Around.frames_deeper g.frames,.inr ⟨rfl,rfl⟩,λb o=>absurd o (I b),g.bs,g.mj,λb _ _=>I b,λb o=>absurd o (I b),g.ku,g.oH⟩,
  rfl,g.gi,Un.kept L,⟨_,x.toInCall.ns,λi y v B d V=>?_⟩,λy c h=>⟨_,x.cell y c h⟩,g.aK.dP (Vm _),λy c h=>?_,λp t=>absurd (show p∈([]:bK) from t) (by simp),g.aK.kept L,?_⟩
 ·exact name_of_addr x.apart (V4 B) (V4 d)
 ·have m:j.names.lookup y=some .cell\/j.names.lookup y=some .free:=m;rcases m with m|m
  ·exact BP m
  ·exact absurd rfl (l.OV _ (V4 m))
 ·exact WP (x.above y c (V4 h))
 ·have C:i<vs.length:=by
   unfold start at d;by_cases C:i<vs.length
   ·exact C
   ·rw[Wd (by simpa using C)] at d;rw[Wf] at d;split at d<;>cases d
  have R:vs[i]? =some v:=by
   unfold start at d;rw[WI (by simpa using C),Vq] at d;cases e:vs[i]? with
   |none=>rw[e] at d;cases d
   |some a=>rw[e] at d;cases d;rfl
  obtain⟨u,M,T⟩:=r.get R;have t:ps[i]? =some y:=by rw[<-l.pre,List.getElem?_take_of_lt ⋯];exact B
  have O:ps.Nodup:=by rw[<-l.pre];exact l.nd.sublist (List.take_sublist _ _)
  refine⟨u,T,?_⟩;rcases l.EU y (Vf t) with k|k
  ·exact .inl ⟨k,Bv O t M k⟩
  ·obtain⟨c,e⟩:=BP (n:=s.heap.objs.size+1) k;refine .inr ⟨.inl k,c,e,?_⟩;have q:=x.cell y c e;rw[Bs O t M (by show j.names.lookup y≠_;rw[k];decide)] at q;exact q
 ·exact g.aK.dP (WP (x.above y c (V4 h)))
 ·unfold start;show _=N.length;rw[Vw,Vn,Ws]
  lia
def MZ{CX:jG}{P:Program}{w:World}{K:Frag}{t:df}{p:Heap}{k:Nat}{f:Addr}{name h:Str}{W:Arguments}{B:List Stmt}{a:Scope}{M kV O X g L ao:Value}{J ap:Option Addr}
  {aq:Array jN}{N ps:cR}{sp:Sp}(an:K.lookup f=some ⟨ao,ap,.func (fnOf name h W B a M kV O X J g L),aq⟩)(ae:codeIn K g h=true)(l:bd N ps a)
  (T:∀vs H Q E,sp vs H Q E->vs.length=ps.length)
  (ad:∀(A:Around)(j:List Env)(s:Shared)(H:Hp)(vs:aQ)(Q:VK)(E:XK),db k (A.deeper (envOfC h a s.heap.objs.size f g))->sp vs H Q E->
   ∃G,iK (kU CX P w K t p N h a f g A j s H E) B G/\G {nx:=λ_ c=>Q .aO c,rt:=Q} (start N vs) H):
  gw P w K t p CX (k+1) f (fnOf name h W B a M kV O X J g L) ps sp:=by
 refine⟨T,λA j s H args us vs Q E C m ac r S=>?_⟩;have ai:=T _ _ _ _ S;have I:K.In s.heap:=m.mod.sh.keeps λb o e=>(m.bs b o e).1;have am:s.heap.NoLimit:=m.mod.nolimit.keeps λb o e=>(m.bs b o e).1;have ag:∀y∈ps.zip us,a.names.lookup y.1=some .local\/(a.names.lookup y.1=some .cell/\((cellsFrom (s.heap.objs.size+1) a.names []).lookup y.1).isSome=true):=λ⟨n,v⟩ al=>by
  rcases l.EU n (WL al).1 with q|q
  ·exact .inl q
  ·exact .inr ⟨q,cellsFrom_some _ _ _ (.inl q)⟩
 refine codeAny_call_function C.depth (I _ _ an) rfl l.co l.Nv rfl (codeRec_of I ae) (ac _ _ _ _ ?_);refine wpAny_newFunctionEnv_cells l.kind ag λar af Y x=>?_;subst af;refine⟨am.keeps x.toInCall.keep,codeAny_func ?_⟩;obtain⟨G,ak,aj⟩:=ad A j s H vs Q E (C.deeper _) S;have aa:Inv (kU CX P w K t p N h a f g A j s H E) [] (start N vs) H Y:=NI l C.hd m ai r x;refine W3 (ak [] Y (start N vs) H _ aa aj) (λab F i=>?_) λe F i=>i;have R:∀{z:St}{c:Hp}{v:V}{u:Value},Inv (kU CX P w K t p N h a f g A j s H E) [] z c F->bM v u->Q v c->CE j P w H s Q u F:=
  λ{z c v u} d D q=>⟨v,c,d.os,d.gi,d.ah,d.aK,D,q⟩
 cases ab with
 |ret u=>obtain⟨v,z,c,d,D,q⟩:=i;exact R d D q
 |next=>obtain⟨z,c,d,q⟩:=i;exact R (v:=V.aO) (u:=Value.none) d rfl q
 |brk=>obtain⟨_,_,_,q⟩:=i;exact False.elim q
 |cont=>obtain⟨_,_,_,q⟩:=i;exact False.elim q
section
variable{X:Cx}{x:Str}{p pos:Pos}{e:Expr}{es:en}{t:TA}{id T:String}{r:aQ->Hp->VK->Prop}
def qE(r:aQ->Hp->VK->Prop)(t:TA):TE:=λb H Q=>t b H λvs a=>r vs a Q
def sL(g:l9 X (.builtin id) r)(k:Gl X x)(l:X.mg x=none)(o:bootBuiltins x=some (.builtin id))(f:PA X (e::es) t)(m:x≠"__name__":=by decide)(i:(x==("__debug__":Str))=false:=by decide)
  (j:starEach (e::es) X.ag=(false,eval e X.ag)::starEach es X.ag:=by rfl)(n:(backTo pos (starEach es X.ag)).any (·.1)=false:=by rfl):PE X (.Call (.Name x p) (e::es) [] pos) (qE r t):=by
 intro aa s b H Q a h;refine Xn (mL a k l o ?_ m i);exact PyProof.Rows.callWith_builtin1 (bu (f pos aa s b H _ a h) λus v ⟨vs,c,d,u,q⟩=>g aa v b c vs us Q d u q) j n
def EY(g:l9 X (.type T) r)(k:Gl X x)(l:X.mg x=none)(o:bootBuiltins x=some (.type T))(f:PA X (e::es) t)(m:x≠"__name__":=by decide)(i:(x==("__debug__":Str))=false:=by decide)
  (j:starEach (e::es) X.ag=(false,eval e X.ag)::starEach es X.ag:=by rfl)(n:(backTo pos (starEach es X.ag)).any (·.1)=false:=by rfl):PE X (.Call (.Name x p) (e::es) [] pos) (qE r t):=by
 intro aa s b H Q a h;refine Xn (mL a k l o ?_ m i);exact Wv (bu (f pos aa s b H _ a h) λus v ⟨vs,c,d,u,q⟩=>g aa v b c vs us Q d u q) j n
end
end L2
namespace HT
open PySem PyProof.Rows
section
variable{prog:Program}{w:World}{A:Around}{E:ci}{s:Shared}
def Kz{a b:Addr}{vs ws:bD}{Q:ci}(v:IsTup s.heap a vs.toArray)(u:IsTup s.heap b ws.toArray)(m:vs≠[])
  (r:ws=[]->Q (.ref a) s)(t:ws≠[]->Q (.ref s.heap.objs.size) {s with heap:=s.heap.push {cls:=.type "tuple",data:=.seq (vs++ws).toArray}})
  (hsz:vs.length+ws.length<=sizeLine):wpAny (model prog w) A (binaryOp .Add (.ref a) (.ref b)) Q E s:=by
 obtain⟨⟨cls,g,data,p⟩,c,i,n,k⟩:=id v;obtain⟨⟨x,h,y,q⟩,d,j,o,l⟩:=id u;simp only at i k j l;subst i k j l;have e:vs.toArray++ws.toArray=(vs++ws).toArray:=by simp
 by_cases f:ws=[]
 ·exact concat_meets ⟨_,c,rfl⟩ ⟨_,d,rfl⟩ noFill_tuple_add seq_tuple_add PySem.F.slot_tuple_add PySem.F.entry_tuple_add (PySem.F.args_tuple_add_2 _ _)
   (tuple_addW1 a b vs.toArray ws.toArray n o g h p q (by simpa using m) (by simp[f])) ⟨c,d,r f⟩
 ·refine concat_meets ⟨_,c,rfl⟩ ⟨_,d,rfl⟩ noFill_tuple_add seq_tuple_add PySem.F.slot_tuple_add PySem.F.entry_tuple_add (PySem.F.args_tuple_add_2 _ _)
   (tuple_addW2 a b vs.toArray ws.toArray n o g h p q (by simpa using m) (by simpa using f) (by rw[VA,VA];exact hsz)) ⟨c,d,?_⟩
  rw[e];exact t f
def iD(n d:Nat):Option Int->Nat
 |none=>d
 |some v=>if v<0 then (v+(n:Int)).toNat else min v.toNat n
def FU(n d:Nat):iD n d none=d:=rfl
def qm(n d k:Nat):iD n d (some (k:Int))=min k n:=by show(if (k:Int)<0 then ((k:Int)+(n:Int)).toNat else min (k:Int).toNat n)=min k n;rw[Vg ⋯,VE]
end
end HT
namespace L2
open PySem PySem.Spec PyProof.Rows
abbrev TO:=St->Hp->(Option Int->Hp->Prop)->Prop
def PO(X:Cx)(e:Option Expr)(d:TO):Prop:=
 ∀(aa:bK)(s:Shared)(a:St)(H:Hp)(Q:Option Int->Hp->Prop),Inv X aa a H s->d a H Q->
  wpAny (model X.prog X.w) X.A (evalPart e X.ag) (λu c=>∃o b,Inv X aa a b c/\IsPart u o/\Q o b) X.xe s
def IN:TO:=λ_ H Q=>Q none H
def IS(b:TE):TO:=λc H Q=>b c H λx a=>∃i,x=.int i/\Q (some i) a
def Do{a:ao}:∀{us:bD},bH (a.map V.int) us->IntsAre us a:=by
 induction a with
 |nil=>intro us r;rw[WH] at r;cases r;exact .nil
 |cons n a b=>
  intro us r;rw[Vv] at r;cases r with
  |cons c d=>obtain⟨f,e⟩:=c;subst e;exact .cons n f (b d)
section
variable{X:Cx}{e:Expr}{te:TE}{lo hi:Option Expr}{tl th:TO}{pos p2:Pos}
def Fa:PO X none IN:=by intro aa s b H Q a h;rw[evalPart_none];exact VL ⟨none,H,a,.none,h⟩
def lS(h:PE X e te):PO X (some e) (IS te):=by intro aa s k H Q b d;rw[evalPart_some];refine bu (h aa s k H _ b d) λu l ⟨x,a,c,g,f⟩=>?_;obtain⟨i,rfl,q⟩:=f;obtain⟨j,rfl⟩:=g;exact⟨some i,a,c,.int i j,q⟩
def xq(X:Cx)(r:V->Option Int->Option Int->Hp->VK->Prop):Prop:=
 ∀(aa:bK)(s:Shared)(d:St)(H:Hp)(x:V)(v b c:Value)(lo hi:Option Int)(a:Addr)(Q:VK),Inv X aa d H s->bM x v->s.heap.IsSliceOf a b c .none->IsPart b lo->IsPart c hi->r x lo hi H Q->
  ∃T e,typeLookup (.type T) "__getitem__"=pure (some (.builtin e))/\s.TypeIs v T/\wpAny (model X.prog X.w) X.A (getItem v (.ref a)) (EP X aa d Q) X.xe s
def IV(r:V->Option Int->Option Int->Hp->VK->Prop)(te:TE)(tl th:TO):TE:=λa H Q=>te a H λx b=>tl a b λl c=>th a c λu d=>r x l u d Q
def qh{r:V->Option Int->Option Int->Hp->VK->Prop}(C:xq X r)(y:PE X e te)(B:PO X lo tl)(E:PO X hi th):PE X (.Subscript e (.Slice lo hi none p2) pos) (IV r te tl th):=by intro aa s c H Q k h;refine Subscript_ (bu (y aa s c H _ k h) λv L ⟨x,i,m,K,G⟩=>?_);refine wpAny_Slice (bu (B aa L c i _ m G) λd M ⟨l,j,n,pl,I⟩=>bu (E aa M c j _ n I) λf a ⟨u,g,o,F,J⟩=>?_);rw[evalPart_none];refine VL ?_;have p:Inv X aa c g {a with heap:=a.heap.push {cls:=.type "slice",data:=.fields #[d,f,.none]}}:=o.kept (t':=a.toks) λb O q=>Vk _ q;obtain⟨T,N,t,D,z⟩:=C aa {a with heap:=a.heap.push {cls:=.type "slice",data:=.fields #[d,f,.none]}} c g x v d f l u a.heap.objs.size Q p K (Heap.IsSliceOf.new ..) pl F J;show wpAny (model X.prog X.w) X.A (subscriptTail e (.Slice lo hi none p2) v (.ref a.heap.objs.size)) (EP X aa c Q) X.xe {a with heap:=a.heap.push {cls:=.type "slice",data:=.fields #[d,f,.none]}};exact tail_any (ops:=[.ref a.heap.objs.size,v]) D t z (by with_unfolding_all rfl)
def kl(xs:aQ)(lo hi:Option Int):aQ:=(xs.drop (HT.iD xs.length 0 lo)).take (HT.iD xs.length xs.length hi-HT.iD xs.length 0 lo)
def KQ(xs:aQ)(lo hi:Option Int):(kl xs lo hi).length<=xs.length:=by
 unfold kl;rw[V0,V9]
 lia
def zH(K:Frag):R2:=λx y H Q=>∃a b xs ys,x=.ref a/\y=.ref b/\bi K H a xs/\bi K H b ys/\xs≠[]/\xs.length+ys.length<=sizeLine/\
 (ys=[]->Q (.ref a) H)/\(ys≠[]->∀p,H p=none->Q (.ref p) (ai H p (.aN (xs++ys))))
def bH.za{xs:aQ}{us:bD}(r:bH xs us):us=[]↔xs=[]:=by
 cases r with
 |nil=>simp
 |cons _ _=>simp
def Qi:ee X (binaryOp .Add) (zH X.K):=by intro aa s B H x y v u Q c p r h;obtain⟨a,b,xs,ys,rfl,rfl,i,j,k,g,m,n⟩:=h;cases p;cases r;obtain⟨t,f,l,_⟩:=c.tuple i;obtain⟨z,e,p2,_⟩:=c.tuple j;refine HT.Kz l p2 (λd=>k (f.za.mp d)) (λd=>⟨.ref a,H,c,rfl,m (e.za.mp d)⟩) (λd=>?_) (by rw[<-f.length, <-e.length];exact g);refine⟨.ref s.heap.objs.size,_,c.jt (t':=s.toks) (o:=.aN (xs++ys)) (λb A q=>Vk _ q) (Vm _) ?_,rfl,n (λw=>d (e.za.mpr w)) _ (c.aK.dP (Vm _))⟩;exact⟨by rw[Vw];exact g,_,f.append e,IsTup.new _ _⟩
end
def mE(n:Nat)(i:Int):Option Nat:=if 0<=i then (if i<n then some i.toNat else none) else if-(n:Int)<=i then some (i+n).toNat else none
def ox{a:Type}(xs:List a)(i:Int):Option a:=(mE xs.length i).bind λj=>xs[j]?
def Ds{n:Nat}{i:Int}{j:Nat}(h:mE n i=some j):seqIndex? i n=some j/\j<n/\ -(n:Int)<=i/\i<n:=by
 unfold mE at h;by_cases b:0<=i
 ·rw[Vh b] at h;by_cases a:i<n
  ·rw[Vh a] at h;have e:i.toNat=j:=Vr h;exact⟨by rw[seqIndex_of b a,e],⋯,⋯,a⟩
  ·rw[Vg a] at h;cases h
 ·rw[Vg b] at h;by_cases a: -(n:Int)<=i
  ·rw[Vh a] at h;have e:(i+n).toNat=j:=Vr h;exact⟨by rw[seqIndex_neg ⋯ a,e],⋯,a,⋯⟩
  ·rw[Vg a] at h;cases h
def Bm{a:Type}{xs:List a}{i:Int}{v:a}(h:ox xs i=some v):∃j,seqIndex? i xs.length=some j/\xs[j]? =some v/\j<xs.length/\ -(xs.length:Int)<=i/\i<xs.length:=by
 unfold ox at h;cases e:mE xs.length i with
 |none=>rw[e] at h;cases h
 |some j=>rw[e] at h;obtain⟨b,c,d,f⟩:=Ds e;exact⟨j,b,h,c,d,f⟩
def ui{a:Type}{xs:List a}{j:Nat}{v:a}(h:xs[j]? =some v):ox xs (j:Int)=some v:=by
 have b:j<xs.length:=(Vj.mp h).1;have e:mE xs.length (j:Int)=some j:=by unfold mE;rw[Vh ⋯,Vh ⋯];simp
 unfold ox;rw[e];exact h
def A7(b:Expr):Prop:=∀o i,subscripted b false o i=operate [o,i] (getItem o i)
def m5(X:Cx)(r:R2):Prop:=
 ∀(c a:Expr)(aa:bK)(s:Shared)(b:St)(H:Hp)(x y:V)(v u:Value)(Q:VK),Inv X aa b H s->bM x v->bM y u->r x y H Q->
  subscripted a false v u=operate [v,u] (getItem v u)->wpAny (model X.prog X.w) X.A (subscriptTail c a v u) (EP X aa b Q) X.xe s
def tP(X:Cx)(b:String)(r:V->aQ->Hp->VK->Prop):Prop:=
 ∀(aa:bK)(s:Shared)(a:St)(H:Hp)(x:V)(xs:aQ)(v:Value)(us:bD)(Q:VK),Inv X aa a H s->bM x v->bH xs us->r x xs H Q->
  wpAny (model X.prog X.w) X.A (call (.builtin b) (v::us)) (EP X aa a Q) X.xe s
section
variable{X:Cx}{a b:Expr}{ta tb:TE}{pos:Pos}
def m5.or{r r':R2}(h:m5 X r)(h':m5 X r'):m5 X (λx y H Q=>r x y H Q\/r' x y H Q):=by
 intro f e aa s g H x y v u Q a c d q b;rcases q with q|q
 ·exact h f e aa s g H x y v u Q a c d q b
 ·exact h' f e aa s g H x y v u Q a c d q b
def Qz{r:R2}(i:m5 X r)(f:PE X a ta)(g:PE X b tb)(j:A7 b):PE X (.Subscript a b pos) (gu r ta tb):=by intro aa s n H Q d h;exact Subscript_ (xH f g d h λv u m x y c e k l q=>i a b aa m n c x y v u Q e k l q (j _ _))
def FA(K:Frag):R2:=λx y H Q=>∃p xs i v,x=.ref p/\y=.int i/\aT K H p xs/\ox xs i=some v/\Q v H
def FC(K:Frag):R2:=λx y H Q=>∃p xs i v,x=.ref p/\y=.int i/\bi K H p xs/\ox xs i=some v/\Q v H
def NL:m5 X (FA X.K):=by
 intro N L aa s k H x y v u Q c C D h g;obtain⟨p,xs,i,F,rfl,rfl,z,o,q⟩:=h;cases C;obtain⟨M,rfl⟩:=D;obtain⟨A,r,pl,J⟩:=c.list z;obtain⟨j,a,l,G,m,n⟩:=Bm o;obtain⟨w,d,B⟩:=r.get l;have t:=r.length;have I:=vz;have e:EP X aa k Q w s:=⟨F,H,c,B,q⟩
 by_cases f:0<=i
 ·have b:i.toNat=j:=by
   rw[seqIndex_of f n] at a;exact Vr a
  exact item_listR pl.isList f ⋯ (by rw[b];simpa using d) e g
 ·have b:(i+(A.toArray.size:Int)).toNat=j:=by
   rw[seqIndex_neg ⋯ m] at a;rw[VA, <-t];exact Vr a
  exact subscriptTail_builtinR (x:=w) pl.isList.typeIs slot_list_getitem.lookup
   (wpAny_getItem_list_neg (Q:=λr E=>r=w/\EP X aa k Q r E) pl.isList ⋯ (by rw[VA]<;>lia) ⋯ (by rw[b];simpa using d) ⟨rfl,e⟩) g
def NM:m5 X (FC X.K):=by
 intro L I aa s b H x y v u Q a o t h m;obtain⟨p,xs,i,A,rfl,rfl,l,g,q⟩:=h;cases o;obtain⟨J,rfl⟩:=t;obtain⟨G,r,pl,F⟩:=a.tuple l;obtain⟨j,e,f,B,C,D⟩:=Bm g;obtain⟨w,c,n⟩:=r.get f;have k:=r.length;have E:=vz;have d:EP X aa b Q w s:=⟨A,H,a,n,q⟩
 exact subscriptTail_builtinR (x:=w) pl.typeIs slot_tuple_getitem.lookup
  (getItem_tuple (j:=j) (Q:=λr z=>r=w/\EP X aa b Q r z) pl ⋯ ⋯ (by rw[VA, <-k];exact e) (by simpa using c) ⟨rfl,d⟩) m
def Ox(a:bD)(n j:Nat)(u:Value):Obj.mapSeq (·.setIfInBounds j u) {cls:=.type "list",data:=.seq a.toArray n}={cls:=.type "list",data:=.seq (a.set j u).toArray n}:=by simp[Obj.mapSeq]
def Inv.aq{aa:bK}{d:St}{H:Hp}{s:Shared}{p:Addr}{xs:aQ}(b:Inv X aa d H s)(h:H p=some (.aq xs)):
  ∃(a:bD)(n:Nat),bH xs a/\s.heap.get? p=some {cls:=.type "list",data:=.seq a.toArray n}/\xs.length<=sizeLine:=by
 obtain⟨c,a,n,r,e⟩:=b.aK p _ h;exact⟨a,n,r,e,c⟩
def Inv.Oi{aa:bK}{g:St}{H:Hp}{s:Shared}{p:Addr}{xs ys:aQ}{d jc:bD}{n a:Nat}{f:Obj->Obj}(i:Inv X aa g H s)(h:H p=some (.aq xs))
  (k:s.heap.get? p=some {cls:=.type "list",data:=.seq d.toArray n})(c:f {cls:=.type "list",data:=.seq d.toArray n}={cls:=.type "list",data:=.seq jc.toArray a})(r:bH ys jc)(l:ys.length<=sizeLine)(m:Nat):
  Inv X aa g (ai H p (.aq ys)) {s with heap:=s.heap.update p f,toks:=m}:=by
 have e:(s.heap.update p f).get? p=some {cls:=.type "list",data:=.seq jc.toArray a}:=by rw[Heap.get?_update_self f k (by rw[c]<;>rfl),c]
 refine i.eV (x:=p) (e:=p) (by rw[h];trivial) (.inl rfl) (λb u j q=>(WN _ _ (Ne.symm j)).trans q) ⟨_,e⟩ ?_;exact⟨l,jc,a,r,e⟩
def vX:V->V->V->Hp->(Hp->Prop)->Prop:=λo i v H Q=>∃p xs k j,o=.ref p/\i=.int k/\H p=some (.aq xs)/\mE xs.length k=some j/\Q (ai H p (.aq (xs.set j v)))
def nT:A6 X vX:=by
 intro aa s C H o i v G F u Q e A z B h;obtain⟨p,xs,k,j,rfl,rfl,t,x,q⟩:=h;cases A;obtain⟨I,rfl⟩:=z;obtain⟨w,n,r,d,y⟩:=e.aq t;obtain⟨a,D,l,m⟩:=Ds x;have c:=r.length;have E:=vz;have f:Inv X aa C (ai H p (.aq (xs.set j v))) {s with heap:=s.heap.update p (Obj.mapSeq (·.setIfInBounds j u))}:=
  e.Oi t d (Ox w n j u) (r.set B j) (by rw[WD];exact y) s.toks
 by_cases g:0<=k
 ·have b:k.toNat=j:=by
   rw[seqIndex_of g m] at a;exact Vr a
  exact ki_setAt d g ⋯ (by rw[VA, <-c];exact m) (by rw[b];exact⟨_,f,q⟩)
 ·have b:(k+(w.toArray.size:Int)).toNat=j:=by
   rw[seqIndex_neg ⋯ l] at a;rw[VA, <-c];exact Vr a
  exact ki_setBack d ⋯ (by rw[VA, <-c];exact l) ⋯ (by rw[b];exact⟨_,f,q⟩)
def SI(b a:Option Int)(n:Nat):(sliceBounds b a none n).1=((HT.iD n 0 b:Nat):Int)/\(sliceBounds b a none n).2.1=((HT.iD n n a:Nat):Int)/\(sliceBounds b a none n).2.2=1:=by
 refine⟨?_,?_,rfl⟩
 ·cases b with
  |none=>simp[sliceBounds,HT.iD]
  |some i=>
   simp only[sliceBounds,HT.iD,Option.getD_none,show(1:Int)>0 by decide,WF];by_cases h:i<0
   ·simp only[h,WF]<;>lia
   ·simp only[h,W5]<;>lia
 ·cases a with
  |none=>simp[sliceBounds,HT.iD]
  |some i=>
   simp only[sliceBounds,HT.iD,Option.getD_none,show(1:Int)>0 by decide,WF];by_cases h:i<0
   ·simp only[h,WF]<;>lia
   ·simp only[h,W5]<;>lia
def SH(a:bD)(b c:Option Int):slicePick a.toArray b c none=((a.drop (HT.iD a.length 0 b)).take (HT.iD a.length a.length c-HT.iD a.length 0 b)).toArray:=by obtain⟨d,e,f⟩:=SI b c a.toArray.size;unfold slicePick;rw[d,e,f];simp only[sliceRange_one,pick_run,VA]<;>rfl
def qk(K:Frag):V->Option Int->Option Int->Hp->VK->Prop:=λx c b H Q=>∃a xs,x=.ref a/\aT K H a xs/\∀p,H p=none->Q (.ref p) (ai H p (.aq (kl xs c b)))
def SG:xq X (qk X.K):=by intro aa s y H x v u w c e t Q d m i pl l h;obtain⟨a,xs,rfl,j,q⟩:=h;cases m;obtain⟨n,r,f,k⟩:=d.list j;have g:=r.length;refine⟨"list",_,slot_list_getitem.lookup,f.isList.typeIs,?_⟩;refine wpAny_getItem_list_slice f.isList i pl l .none (by simp) ?_ (by rw[VA]<;>lia);rw[SH, <-g];refine⟨.ref s.heap.objs.size,_,d.jt (t':=s.toks) (o:=.aq (kl xs c e)) (λb p q=>Vk _ q) (Vm _) ?_,rfl,q _ (d.aK.dP (Vm _))⟩;exact⟨Vy (KQ xs c e) k,_,0,(r.drop (HT.iD xs.length 0 c)).take (HT.iD xs.length xs.length e-HT.iD xs.length 0 c),VM _ rfl⟩
def kt:V->Bool
 | .aO=>true
 | .bl _=>true
 | .int _=>true
 | .str _=>true
 |_=>false
noncomputable def lL:V->V->Bool
 | .aO,.aO=>true
 | .bl a,.bl b=>a==b
 | .bl a,.int b=>(if a then 1 else 0)==b
 | .int a,.bl b=>a==(if b then 1 else 0)
 | .int a,.int b=>a==b
 | .str a,.str b=>a==b
 |_,_=>false
def MN{A:Around}{s:Shared}{y x:V}{u v:Value}(f:bM y u)(c:bM x v)(g:kt y=true)(e:kt x=true):SeqAt.EqAt A s u v (lL y x):=by
 cases y with
 |aO=>
  cases f;cases x with
  |aO=>cases c;exact SeqAt.EqAt.same _
  |bl b=>cases c;exact SeqAt.EqAt.none_bool b
  |int b=>obtain⟨d,rfl⟩:=c;exact SeqAt.EqAt.none_int b d
  |str b=>obtain⟨d,rfl⟩:=c;exact SeqAt.EqAt.none_str b d
  |_=>exact absurd (show false=true from e) VG
 |bl a=>
  cases f;cases x with
  |aO=>cases c;exact SeqAt.EqAt.bool_none a
  |bl b=>cases c;exact SeqAt.EqAt.bool_bool a b
  |int b=>obtain⟨d,rfl⟩:=c;exact SeqAt.EqAt.bool_int a b d
  |str b=>obtain⟨d,rfl⟩:=c;exact SeqAt.EqAt.bool_str a b d
  |_=>exact absurd (show false=true from e) VG
 |int a=>
  obtain⟨t',rfl⟩:=f;cases x with
  |aO=>cases c;exact SeqAt.EqAt.int_none a t'
  |bl b=>cases c;exact SeqAt.EqAt.int_bool a t' b
  |int b=>obtain⟨d,rfl⟩:=c;exact SeqAt.EqAt.int_int a t' b d
  |str b=>obtain⟨d,rfl⟩:=c;exact SeqAt.EqAt.int_str a t' b d
  |_=>exact absurd (show false=true from e) VG
 |str a=>
  obtain⟨t',rfl⟩:=f;cases x with
  |aO=>cases c;exact SeqAt.EqAt.str_none a t'
  |bl b=>cases c;exact SeqAt.EqAt.str_bool a t' b
  |int b=>obtain⟨d,rfl⟩:=c;exact SeqAt.EqAt.str_int a t' b d
  |str b=>obtain⟨d,rfl⟩:=c;exact SeqAt.EqAt.str_str a t' b d
  |_=>exact absurd (show false=true from e) VG
 |_=>exact absurd (show false=true from g) VG
def lK(x:V)(u:Value):Bool:=match u with
 | .none=>lL .aO x
 | .bool b=>lL (.bl b) x
 | .int i _=>lL (.int i) x
 | .str a _=>lL (.str a) x
 |_=>false
def uI{x y:V}{u:Value}(r:bM y u)(f:kt y=true):lK x u=lL y x:=by
 cases y with
 |aO=>cases r;rfl
 |bl b=>cases r;rfl
 |int i=>obtain⟨a,rfl⟩:=r;rfl
 |str c=>obtain⟨a,rfl⟩:=r;rfl
 |_=>exact absurd (show false=true from f) VG
theorem xE{x:V}:∀{xs:aQ}{us:bD},bH xs us->xs.all kt=true->us.any (lK x)=xs.any λy=>lL y x
 |_,_,.nil,_=>rfl
 |y::xs,u::us,.cons r t,f=>by rw[WX,Vt] at f;rw[WW,WW,uI r f.1,xE t f.2]
theorem vB{A:Around}{s:Shared}{x:V}{v:Value}(c:bM x v)(b:kt x=true):∀{xs:aQ}{us:bD},bH xs us->xs.all kt=true->∀u∈us,SeqAt.EqAt A s u v (lK x u)
 |_,_,.nil,_=>λu a=>by cases a
 |y::xs,u::us,.cons r t,f=>λd a=>by
  rw[WX,Vt] at f;rcases Vo.mp a with rfl|a
  ·rw[uI r f.1];exact MN r c f.1 b
  ·exact vB c b t f.2 d a
def k8(x:V)(xs:aQ):Bool:=xs.any λy=>lL y x
def sS(K:Frag)(a:Bool):R2:=λx y H Q=>∃p xs,y=.ref p/\(aT K H p xs\/bi K H p xs)/\kt x=true/\xs.all kt=true/\Q (.bl (if a then !k8 x xs else k8 x xs)) H
def Qk:ee X (compareOp .In) (sS X.K false):=by
 intro aa s k H x y v u Q c g j h;obtain⟨p,xs,rfl,a,f,d,q⟩:=h;cases j;rcases a with a|a
 ·obtain⟨b,r,pl,i⟩:=c.list a;refine SeqAt.in_listAt (lK x) pl.isList (λw e=>vB g f r d w (by simpa using e)) ⟨.bl _,H,c,rfl,?_⟩;rw[show b.toArray.any (lK x)=b.any (lK x) by simp,xE r d];exact q
 ·obtain⟨b,r,pl,i⟩:=c.tuple a;refine SeqAt.in_tupleAt (lK x) pl (λw e=>vB g f r d w (by simpa using e)) ⟨.bl _,H,c,rfl,?_⟩;rw[show b.toArray.any (lK x)=b.any (lK x) by simp,xE r d];exact q
def Ks:l9 X (.builtin "len") (λxs H Q=>∃p ys,xs=[.ref p]/\(aT X.K H p ys\/bi X.K H p ys)/\Q (.int ys.length) H):=by
 intro aa s i H xs us Q b r h;obtain⟨p,ys,rfl,a,q⟩:=h;obtain⟨u,rfl,f⟩:=qK r;cases f;have g:=vz;rcases a with a|a
 ·obtain⟨e,r',pl,d⟩:=b.list a;have c:=r'.length;exact Calls.call_len_list pl.isList (by simp only[VA]<;>lia) ⟨.int ys.length,H,b.i6 _,⟨s.toks+1,by rw[VA,c]⟩,q⟩
 ·obtain⟨e,r',pl,d⟩:=b.tuple a;have c:=r'.length;exact len_tuple pl (by simp only[VA]<;>lia) ⟨.int ys.length,H,b.i6 _,⟨s.toks+1,by rw[VA,c]⟩,q⟩
def Kt:l9 X (.type "list") (λxs H Q=>∃p ys,xs=[.ref p]/\(aT X.K H p ys\/bi X.K H p ys)/\∀l,H l=none->Q (.ref l) (ai H l (.aq ys))):=by
 intro aa s y H xs us Q i r h;obtain⟨p,ys,rfl,d,q⟩:=h;obtain⟨u,rfl,x⟩:=qK r;cases x;have t:∀(a:bD),bH ys a->ys.length<=sizeLine->∀(h':Heap)(c:Nat),(∀b o',s.heap.get? b=some o'->h'.get? b=some o')->
   h'.get? s.heap.objs.size=some {cls:=.type "list",dict:=none,data:=.seq a.toArray c,slots:= #[]}->EP X aa y Q (.ref s.heap.objs.size) {s with heap:=h'}:=λa r' f h' c g e=>
  ⟨.ref s.heap.objs.size,_,i.jt (t':=s.toks) g (Vm _) (show ed X.prog X.w _ h' _ (.aq ys) from ⟨f,a,c,r',e⟩),rfl,q _ (i.aK.dP (Vm _))⟩
 rcases d with d|d
 ·obtain⟨a,r',pl,f⟩:=i.list d;have v:=r'.length;obtain⟨o,m,j,n,k⟩:=pl.isList;exact call_list_seq p (.inl rfl) m j k (λh' c g e=>t a r' f h' c g e) (by simp only[VA]<;>lia)
 ·obtain⟨a,r',pl,f⟩:=i.tuple d;have v:=r'.length;obtain⟨o,m,j,n,k⟩:=pl;exact call_list_seq p (.inr rfl) m j k (λh' c g e=>t a r' f h' c g e) (by simp only[VA]<;>lia)
def tG(K:Frag)(T:String)(x:V)(H:Hp):Prop:=match x with
 | .str _=>T="str"
 | .int _=>T="int"
 | .ref p=>(T="list"/\∃xs,aT K H p xs)\/(T="tuple"/\∃o,K.lookup p=some o/\o.cls=.type "tuple"/\o.dict=none)\/
   (T="dict"/\((∃a,H p=some (.dK a))\/∃a,H p=some (.dT a)))\/(T="set"/\∃b n,H p=some (.set b n))
 |_=>False
def Ts{aa:bK}{u:St}{H:Hp}{s:Shared}{T:String}{x:V}{v:Value}(f:Inv X aa u H s)(r:bM x v)(ty:tG X.K T x H):
  s.TypeIs v T/\∀a,v=.ref a->∃l,s.heap.get? a=some l/\l.dict=none:=by
 cases x with
 |str k=>obtain⟨j,rfl⟩:=r;cases (show T="str" from ty);exact⟨typeIs_str s k j,λ_ e=>nomatch e⟩
 |int i=>obtain⟨j,rfl⟩:=r;cases (show T="int" from ty);exact⟨typeIs_int s i j,λ_ e=>nomatch e⟩
 |ref p=>
  cases r;rcases ty with ⟨rfl,xs,q⟩|⟨rfl,o,b,m,h⟩|⟨rfl,b⟩|⟨rfl,w,n,b⟩
  ·obtain⟨y,_,pl,_⟩:=f.list q;refine⟨pl.isList.typeIs,λa e=>?_⟩;cases e;obtain⟨o,n,e,c,h,_⟩:=pl;exact⟨o,e,h⟩
  ·refine⟨⟨o,f.jd p o b,m⟩,λa e=>?_⟩;cases e;exact⟨o,f.jd _ o b,h⟩
  ·have k:∃o,s.heap.get? p=some o/\o.ExactDict:=by
    rcases b with ⟨t,b⟩|⟨t,b⟩
    ·obtain⟨_,_,_,_,o,_,_,e,d,_⟩:=f.aK p _ b;exact⟨o,e,d⟩
    ·obtain⟨_,_,_,_,o,_,_,e,d,_⟩:=f.aK p _ b;exact⟨o,e,d⟩
   obtain⟨o,e,d⟩:=k;refine⟨⟨o,e,d.1⟩,λa g=>?_⟩;cases g;exact⟨o,e,d.2.1⟩
  ·obtain⟨o,_,_,_,e,d,_⟩:=f.aK p _ b;refine⟨⟨o,e,d.1⟩,λa g=>?_⟩;cases g;exact⟨o,e,d.2.1⟩
 |_=>exact False.elim ty
def wK(K:Frag)(T:String)(r:V->aQ->Hp->VK->Prop)(e:TE)(d:TA):TE:=λb H Q=>e b H λx a=>tG K T x a/\d b a λxs c=>r x xs c Q
variable{o e:Expr}{es:en}{to:TE}{t:TA}{name:Str}{fH fY:Pos}{T id:String}{r:V->aQ->Hp->VK->Prop}
def Qt(B:PlainAttrs T)(I:Slot T name id)(A:typeOf (.builtin id)=pure (.type "method_descriptor"))(u:tP X id r)(w:PE X o to)(m:PA X (e::es) t)
  (n:attributeBase o name X.ag (eval o X.ag)=eval o X.ag:=by rfl)
  (p:((backTo fY (starEach (e::es) X.ag)).all (λx=> !x.1)&&(backToKw fY (keywordEach [] X.ag)).all (λx=>x.1.isSome)
   &&decide ((e::es).length+([]:List Keyword).length+(if ([]:List Keyword).isEmpty then 0 else 1)<30))=true:=by rfl)
  (q:(fH.endLine==fY.line)=true:=by rfl)(z:starEach (e::es) X.ag=(false,eval e X.ag)::starEach es X.ag:=by rfl)(y:(backTo fY (starEach es X.ag)).any (·.1)=false:=by rfl):
  PE X (.Call (.Attribute o name fH) (e::es) [] fY) (wK X.K T r to t):=by
 intro aa s a H Q i h;refine wpAny_Call_method_late n p q rfl (bu (w aa s a H _ i h) λv F ⟨x,f,b,d,ty,C⟩=>?_);obtain⟨k,l⟩:=Ts b d ty;refine⟨T,id,B,I,A,k,l,?_⟩;have c:=m fY aa F a f _ b C;rw[z] at c ⊢;refine Calls.callWith_builtin (by show(false||(backTo fY (starEach es X.ag)).any (·.1))=false;rw[y]<;>rfl) (Calls.evalArgs_plain ?_);exact bu c λus G ⟨vs,g,j,E,D⟩=>u aa G a g x vs v us Q j d E D
end
def xg(X:Cx)(b:String)(r:V->aQ->Hp->VK->Prop):Prop:=
 ∀(aa:bK)(s:Shared)(a:St)(H:Hp)(x:V)(xs:aQ)(v:Value)(us:bD)(Q:VK),Inv X aa a H s->bM x v->bH xs us->r x xs H Q->
  wpAny (model X.prog X.w) X.A (call (.builtin b) (v::us)) (EP X aa a Q) X.xe s
theorem bH.one:∀{x:V}{us:bD},bH [x] us->∃u,us=[u]/\bM x u
 |_,_,.cons r .nil=>⟨_,rfl,r⟩
section
variable{X:Cx}{aa:bK}{U:St}{H:Hp}{s:Shared}{l b:Addr}{xs ys zs:aQ}
def Inv.yR{a jc:bD}{n:Nat}{f:Array Value->Array Value}{t':Nat}(b:Inv X aa U H s)(c:H l=some (.aq xs))
  (e:s.heap.get? l=some {cls:=.type "list",data:=.seq a.toArray n})(g:f a.toArray=jc.toArray)(i:bH ys jc)(j:ys.length<=sizeLine):
  Inv X aa U (ai H l (.aq ys)) {s with heap:=s.heap.update l (Obj.mapSeq f),toks:=t'}:=by
 have q:=PySem.IsL.update e f;rw[g] at q;refine b.eV (x:=l) (e:=l) (by rw[c];exact trivial) (.inl rfl) (λk u d h=>(WN s.heap (Obj.mapSeq f) (Ne.symm d)).trans h) ⟨_,q⟩ ?_;exact⟨j,jc,_,i,q⟩
def Inv.Og{a:bD}{t':Nat}(b:Inv X aa U H s)(c:bH ys a)(d:ys.length<=sizeLine):
  Inv X aa U (ai H s.heap.objs.size (.aq ys)) {s with heap:=s.heap.push {cls:=.type "list",data:=.seq a.toArray},toks:=t'}:=
 b.jt (λ_ _ q=>Vk _ q) (Vm _) ⟨d,a,0,c,VM _ rfl⟩
def Inv.dP(a:Inv X aa U H s):H s.heap.objs.size=none:=a.aK.dP (Vm _)
def Inv.qc(b:Inv X aa U H s)(c:H l=some (.aq xs)):xs.length<=sizeLine/\∃(a:bD)(n:Nat),bH xs a/\xs.length=a.length/\s.heap.get? l=some {cls:=.type "list",data:=.seq a.toArray n}:=by obtain⟨d,a,n,r,e⟩:=b.aK l _ c;exact⟨d,a,n,r,r.length,e⟩
def Em{n:Nat}(h:n<=sizeLine):Builtin.List.listTooLong n=false:=by unfold Builtin.List.listTooLong;exact VF ⋯
end
section
variable{X:Cx}
def zF:V->aQ->Hp->VK->Prop:=λx vs H Q=>∃l xs y,x=.ref l/\vs=[y]/\H l=some (.aq xs)/\xs.length<sizeLine/\Q .aO (ai H l (.aq (xs++[y])))
def OF:xg X "list.append" zF:=by
 intro aa s m H x vs v us Q a g f h;obtain⟨l,xs,y,rfl,rfl,b,j,q⟩:=h;cases g;obtain⟨u,rfl,d⟩:=f.one;obtain⟨k,c,n,r,i,e⟩:=a.qc b;refine call_meets F.slot_list_append ⟨_,e,rfl⟩ F.entry_list_append (F.args_list_append_2 _ _) (PySem.list_append l c.toArray n u (by rw[VA];lia)) ⟨e,?_⟩;refine⟨.aO,_,a.yR (jc:=c++[u]) b e (by simp) (r.append (.cons d .nil)) ?_,rfl,q⟩;rw[Vw,List.length_singleton]
 lia
def Rg:V->aQ->Hp->VK->Prop:=λx vs H Q=>∃l b xs a,x=.ref l/\vs=[.ref b]/\H l=some (.aq xs)/\H b=some (.aq a)/\xs.length+a.length<=sizeLine/\Q .aO (ai H l (.aq (xs++a)))
def OH:xg X "list.extend" Rg:=by
 intro aa s D H x vs v us Q d t p h;obtain⟨l,b,xs,C,rfl,rfl,f,i,z,q⟩:=h;cases t;obtain⟨u,rfl,o⟩:=p.one;cases o;obtain⟨A,a,n,r,w,e⟩:=d.qc f;obtain⟨B,c,k,m,y,g⟩:=d.qc i;have hsz:a.toArray.size+c.toArray.size<=sizeLine:=by rw[VA,VA];lia
 have j:¬(!a.toArray.isEmpty&&Builtin.List.listTooLong (a.toArray.size+c.toArray.size))=true:=by rw[Em hsz,Bool.and_false];exact VG
 refine call_meets F.slot_list_extend ⟨_,e,rfl⟩ F.entry_list_extend (F.args_list_extend_2 _ _)
  (AutoSeq1.list_extend_list_list_0 l a.toArray n b c.toArray k j (by rw[VA];lia) ⋯) ⟨e,g,?_⟩
 refine⟨.aO,_,d.yR (jc:=a++c) f e (by simp) (r.append m) ?_,rfl,q⟩;rw[Vw]
 lia
def zG:R2:=λx y H Q=>∃l b xs a,x=.ref l/\y=.ref b/\H l=some (.aq xs)/\H b=some (.aq a)/\xs.length+a.length<=sizeLine/\∀p,H p=none->Q (.ref p) (ai H p (.aq (xs++a)))
def sH:ee X (binaryOp .Add) zG:=by
 intro aa s D H x y v u Q a m o h;obtain⟨l,b,xs,C,rfl,rfl,j,i,w,q⟩:=h;cases m;cases o;obtain⟨A,c,n,r,p,e⟩:=a.qc j;obtain⟨B,d,z,k,t,f⟩:=a.qc i;refine PySem.P.add_list e f ?_ (by rw[VA,VA];lia);have g:c.toArray++d.toArray=(c++d).toArray:=by simp
 rw[g];exact⟨.ref _,_,a.Og (t':=s.toks) (r.append k) (by rw[Vw];lia),rfl,q _ a.dP⟩
end
section
variable{X:Cx}
def zI(K:Frag):V->aQ->Hp->VK->Prop:=λx xs H Q=>∃(a:Addr)(ys:aQ)(y:V)(j:Nat)(b:V),x=V.ref a/\xs=[y]/\aT K H a ys/\kt y=true/\ys.all kt=true/\ys[j]? =some b/\lL b y=true/\
 (∀(m:Nat)(c:V),m<j->ys[m]? =some c->lL c y=false)/\Q (.int (j:Nat)) H
def CD{ys:aQ}(f:ys.all kt=true){j:Nat}{a:V}(h:ys[j]? =some a):kt a=true:=VO.mp f a (Vf h)
def OI:tP X "list.index" (zI X.K):=by
 intro aa s al H x xs v us Q g R S h;obtain⟨a,ys,y,j,ak,rfl,rfl,G,r,e,o,M,E,q⟩:=h;cases R;cases S with
 |cons T N=>
  rename_i ab aj;cases N;obtain⟨b,c,⟨⟨ac,p,ad,V⟩,n,l,i,ae,k⟩,af⟩:=g.list G;simp only at i k;subst i k;obtain⟨u,I,O⟩:=c.get o;obtain⟨z,w⟩:=Vj.mp I;have ai:=c.length;have t:j<b.toArray.size:=by simpa using z
  have ah:=sizeLine_eq;refine call_meets PySem.F.slot_list_index ⟨_,l,rfl⟩ PySem.F.entry_list_index (PySem.F.args_list_index_2 _ _)
   (SeqAt.list_indexAt a b.toArray n p V ab (lK y) j t ⋯ ?_ ?_) ⟨l,λW J=>vB T r c e W (by simpa using J),?_⟩
  ·have d:b.toArray[j]=u:=by simpa using w
   rw[d,uI O (CD e o)];exact M
  ·intro m A C;have ag:m<b.length:=by simpa using A
   have D:m<ys.length:=by lia
   have f:ys[m]? =some ys[m]:=Ve D;obtain⟨Y,L,P⟩:=c.get f;obtain⟨_,B⟩:=Vj.mp L;have d:b.toArray[m]=Y:=by simpa using B
   rw[d,uI P (CD e f)];exact E m _ C f
  ·exact⟨.int (j:Nat),H,g.i6 _,⟨_,rfl⟩,q⟩
end
mutual
inductive Dp(K:Frag)(H:Hp):V->PyData->Prop
 |aO:Dp K H .aO .none
 |bl (b:Bool):Dp K H (.bl b) (.bool b)
 |int (i:Int):Dp K H (.int i) (.int i)
 |str (x:Str):Dp K H (.str x) (.str x)
 |aq {a:Addr} {xs:List V} {ds:List PyData}:aT K H a xs->pD K H xs ds->Dp K H (.ref a) (.list ds)
 |aN {a:Addr} {xs:List V} {ds:List PyData}:bi K H a xs->pD K H xs ds->Dp K H (.ref a) (.tuple ds)
inductive pD(K:Frag)(H:Hp):List V->List PyData->Prop
 |nil:pD K H [] []
 |cons {v:V} {vs:List V} {d:PyData} {ds:List PyData}:Dp K H v d->pD K H vs ds->pD K H (v::vs) (d::ds)
end
section
variable{X:Cx}{aa:bK}{U:St}{H:Hp}{s:Shared}
mutual
theorem Dp.oS(I:Inv X aa U H s):∀(d:PyData)(v:V)(u:Value),Dp X.K H v d->bM v u->∃as,Reads s.heap u d as
 | .none,_,_,h,r=>by
  cases h
  cases r
  exact⟨_,Reads.none⟩
 | .bool b,_,_,h,r=>by
  cases h
  cases r
  exact⟨_,Reads.bool b⟩
 | .int i,_,_,h,r=>by
  cases h
  obtain⟨t,rfl⟩:=r
  exact⟨_,Reads.int i t⟩
 | .str x,_,_,h,r=>by
  cases h
  obtain⟨t,rfl⟩:=r
  exact⟨_,Reads.str x t⟩
 | .list ds,_,_,h,r=>by
  cases h with
  |aq hs ha=>
   cases r
   obtain⟨its,rv,⟨o,n,ho,hc,_,hd⟩,_⟩:=I.list hs
   obtain⟨as,hr⟩:=Dp.oT I ds _ its ha rv
   exact⟨_,Reads.list ho hc hd hr⟩
 | .tuple ds,_,_,h,r=>by
  cases h with
  |aN hs ha=>
   cases r
   obtain⟨its,rv,⟨o,ho,hc,n,hd⟩,_⟩:=I.tuple hs
   obtain⟨as,hr⟩:=Dp.oT I ds _ its ha rv
   exact⟨_,Reads.tuple ho hc hd hr⟩
 | .dict _,_,_,h,_=>by cases h
theorem Dp.oT(I:Inv X aa U H s):∀(ds:List PyData)(vs:List V)(us:List Value),pD X.K H vs ds->bH vs us->∃as,ReadsAll s.heap us ds as
 |[],_,_,h,r=>by
  cases h
  cases r
  exact⟨_,ReadsAll.nil⟩
 |d::ds,_,_,h,r=>by
  cases h with
  |cons h1 h2=>
   cases r with
   |cons r1 r2=>
    obtain⟨as,q1⟩:=Dp.oS I d _ _ h1 r1
    obtain⟨bs,q2⟩:=Dp.oT I ds _ _ h2 r2
    exact⟨_,ReadsAll.cons q1 q2⟩
end
end
abbrev AY(h:Heap)(c:Addr)(v:jN):Prop:=h.IsCell c v
noncomputable def Rm(b a:Scope):Scope:=
 {b with names:=b.names.map λ(n,k)=>if (k==.free&&a.kind==.function&&a.names.lookup n==some .cell) then (n,.cell) else (n,k)}
def gk(cells:eJ):List (Str×NameKind)->eJ->eJ
 |[],b_=>b_
 |(n,k)::r,b_=>if k==.free then gk cells r ((n,(cells.lookup n).getD 0)::b_) else gk cells r b_
theorem BW(b:Env)(f:Str×NameKind->eJ->Sem (ForInStep eJ))
  (i:∀n k c,f (n,k) c=if k==.free then (do let a<-cellOf b n;pure (.yield ((n,a)::c))) else pure (.yield c)):
  ∀(names:List (Str×NameKind))(b_:eJ),(∀y∈names,y.2=.free->∃c,b.cells.lookup y.1=some c)->forIn names b_ f=pure (gk b.cells names b_)
 |[],b_,_=>by rw[List.forIn_nil];rfl
 |(n,k)::r,b_,h=>by
  rw[List.forIn_cons,i];have j:=λb_=>BW b f i r b_ λy m=>h y (VI _ m);unfold gk;by_cases d:(k==NameKind.free)=true
  ·rw[Vh d,Vh d];obtain⟨c,g⟩:=h (n,k) VY (by simpa using d);have e:cellOf b n=pure c:=by unfold cellOf;rw[g]
   rw[e];have l:(b.cells.lookup n).getD 0=c:=by rw[g];rfl
   rw[l];exact j _
  ·rw[Vg d,Vg d];exact j _
def KI{b:Scope}{a:Env}(h:∀y∈b.names,y.2=.free->∃c,a.cells.lookup y.1=some c):closureFor b a=pure (gk a.cells b.names []):=by simp only[closureFor];rw[BW a _ (λn k c=>rfl) b.names [] h];rfl
theorem yV{a:Type}:∀{l:List (Str×a)}{n:Str}{c:a},(n,c)∈l->∃b,l.lookup n=some b
 |(k,v)::r,n,c,h=>by
  rw[WR];cases d:n==k with
  |true=>exact⟨_,rfl⟩
  |false=>
   rcases Vo.mp h with e|h
   ·cases e;simp at d
   ·exact yV h
theorem uA{cells:eJ}:∀{names:List (Str×NameKind)}{b_:eJ}{n:Str}{c:Addr},(n,c)∈gk cells names b_->(n,c)∈b_\/((n,.free)∈names/\c=(cells.lookup n).getD 0)
 |[],_,_,_,h=>.inl h
 |(m,k)::r,b_,n,c,h=>by
  unfold gk at h;split at h
  ·rename_i d;have d:k=.free:=by simpa using d
   rcases uA h with h|⟨a,b⟩
   ·rcases Vo.mp h with e|h
    ·cases e;exact .inr ⟨d▸VY,rfl⟩
    ·exact .inl h
   ·exact .inr ⟨VI _ a,b⟩
  ·rcases uA h with h|⟨a,b⟩
   ·exact .inl h
   ·exact .inr ⟨VI _ a,b⟩
theorem xO{cells:eJ}:∀{names:List (Str×NameKind)}{b_:eJ}{p:Str×Addr},p∈b_->p∈gk cells names b_
 |[],_,_,h=>h
 |(m,k)::r,b_,p,h=>by
  unfold gk;split
  ·exact xO (VI _ h)
  ·exact xO h
theorem xP{cells:eJ}:∀{names:List (Str×NameKind)}{b_:eJ}{n:Str},(n,.free)∈names->(n,(cells.lookup n).getD 0)∈gk cells names b_
 |(m,k)::r,b_,n,h=>by
  unfold gk;rcases Vo.mp h with e|h
  ·cases e;exact xO VY
  ·split
   ·exact xP h
   ·exact xP h
theorem rF:∀{names:List (Str×NameKind)}{h:Heap}{b_:eJ}{x:Str}{c:Addr},(x,c)∈cellsFrom h.objs.size names b_->
  (x,c)∈b_\/((x,.cell)∈names/\h.objs.size<=c/\AY (pushCells h names) c none)
 |[],_,_,_,_,h=>.inl h
 |(n,k)::r,h,b_,x,c,a=>by
  unfold cellsFrom at a;unfold pushCells;split at a
  ·rename_i b;rw[Vh b];have b:k=.cell:=by simpa using b
   rw[<-Wb h {cls:=.type "cell",data:=.cell none}] at a;rcases rF a with a|⟨f,d,g⟩
   ·rcases Vo.mp a with e|a
    ·cases e;exact .inr ⟨b▸VY,Vm _,_,pushCells_keeps r _ _ _ (VM _ rfl),rfl⟩
    ·exact .inl a
   ·rw[Wb] at d;exact .inr ⟨VI _ f,Nat.le_of_succ_le d,g⟩
  ·rename_i b;rw[Vg b];rcases rF a with a|⟨f,d,g⟩
   ·exact .inl a
   ·exact .inr ⟨VI _ f,d,g⟩
theorem uz:∀{names:List (Str×NameKind)}{n:Nat}{b_:eJ}{p:Str×Addr},p∈b_->p∈cellsFrom n names b_
 |[],_,_,_,h=>h
 |(m,k)::r,n,b_,p,h=>by
  unfold cellsFrom;split
  ·exact uz (VI _ h)
  ·exact uz h
theorem xM:∀{names:List (Str×NameKind)}{n:Nat}{b_:eJ}{x:Str},(x,.cell)∈names->∃c,(x,c)∈cellsFrom n names b_
 |(m,k)::r,n,b_,x,h=>by
  unfold cellsFrom;rcases Vo.mp h with e|h
  ·cases e;exact⟨n,uz VY⟩
  ·split
   ·exact xM h
   ·exact xM h
theorem xN:∀{names:List (Str×NameKind)}{h:Heap}{b_:eJ}{x y:Str}{c:Addr},(∀p∈b_,p.2<h.objs.size)->(∀x y c,(x,c)∈b_->(y,c)∈b_->x=y)->
  (x,c)∈cellsFrom h.objs.size names b_->(y,c)∈cellsFrom h.objs.size names b_->x=y
 |[],_,_,_,_,_,_,g,f,d=>g _ _ _ f d
 |(n,k)::r,h,b_,x,y,c,i,g,f,d=>by
  unfold cellsFrom at f d;split at f
  ·rename_i j;rw[Vh j] at d;rw[<-Wb h {cls:=.type "cell",data:=.cell none}] at f d;refine xN (h:=h.push _) (λp l=>?_) (λx y c a b=>?_) f d
   ·rw[Wb];rcases Vo.mp l with rfl|l
    ·exact Nat.lt_succ_self _
    ·exact Nat.lt_succ_of_lt (i p l)
   ·rcases Vo.mp a with e|a<;>rcases Vo.mp b with m|b
    ·cases e;cases m;rfl
    ·cases e;exact absurd (i _ b) (WV _)
    ·cases m;exact absurd (i _ a) (WV _)
    ·exact g _ _ _ a b
  ·rename_i j;rw[Vg j] at d;exact xN i g f d
def OM{M:Model}{A:Around}{E:ci}{s:Shared}{a:Scope}{i:Addr}{b:eJ}{j:Str}{g:Option Addr}{f:Value}{d:Env}{e:Addr}{Q:Env->Shared->Prop}
  (h:Q (newEnv a s.heap.objs.size i (cellsFrom (s.heap.objs.size+1) a.names b) j g f (some d) e)
   {s with heap:=pushCells (s.heap.push {cls:=.type "dict",data:=.dict #[]}) a.names}):
  wpAny M A (newFunctionEnv a i b [] j g f (some d) e) Q E s:=by
 simp only[newFunctionEnv,Option.isSome_some,WF];refine Vi (wpAny_alloc ?_);refine Vi (wpAny_layCells _ (λn k c=>rfl) a.names b _ _ ?_);rw[show({s with heap:=s.heap.push {cls:=.type "dict",data:=.dict #[]}}:Shared).heap.objs.size=s.heap.objs.size+1 from Wb ..];rw[List.forIn_nil];exact Vi (VL (VL h))
theorem yP{a:Scope}:∀{names:List (Str×NameKind)}{x:Str}{k:NameKind},
  (names.map λ(n,k)=>if (k==NameKind.free&&a.kind==.function&&a.names.lookup n==some .cell) then (n,NameKind.cell) else (n,k)).lookup x=some k->
  ∃e,names.lookup x=some e/\(k=e\/(e=.free/\k=.cell))
 |[],_,_,h=>by simp at h
 |(n,d)::r,x,k,h=>by
  have f:= @yP a r x k;have h':List.lookup x ((if (d==NameKind.free&&a.kind==.function&&a.names.lookup n==some .cell)=true then (n,NameKind.cell) else (n,d))::(r.map _))=some k:=h;cases c:x==n with
  |true=>
   simp only[WR,c];by_cases b:(d==NameKind.free&&a.kind==.function&&a.names.lookup n==some .cell)=true
   ·rw[Vh b] at h';simp only[WR,c] at h';cases h';simp only[Vt,beq_iff_eq] at b;exact⟨d,rfl,.inr ⟨b.1.1,rfl⟩⟩
   ·rw[Vg b] at h';simp only[WR,c] at h';cases h';exact⟨_,rfl,.inl rfl⟩
  |false=>
   simp only[WR,c];by_cases b:(d==NameKind.free&&a.kind==.function&&a.names.lookup n==some .cell)=true
   ·rw[Vh b] at h';simp only[WR,c] at h';exact f h'
   ·rw[Vg b] at h';simp only[WR,c] at h';exact f h'
structure qP(N:cR)(sc scope:Scope)(own:List (Str×Nat)):Prop where
 kind:scope.kind=.function
 AN:∀y∈scope.names,scope.names.lookup y.1=some y.2
 ix:∀p∈own,N[p.2]? =some p.1
 free:∀y∈scope.names,y.2=.free->sc.names.lookup y.1=some .cell\/sc.names.lookup y.1=some .free
 own:∀y∈scope.names,y.2=.local\/y.2=.cell->y.1∈own.map (·.1)\/y.1∉N
def cZ(a:St):List Nat->St
 |[]=>a
 |v::vs=>(cZ a vs).set v none
theorem AU(a:St):∀vs:List Nat,(cZ a vs).length=a.length
 |[]=>rfl
 |v::vs=>by unfold cZ;rw[WD,AU a vs]
theorem AV{b:St}{i:Nat}{x:V}:∀{vs:List Nat},(cZ b vs)[i]? =some (some x)->b[i]? =some (some x)/\i∉vs
 |[],h=>⟨h,by simp⟩
 |v::vs,h=>by
  unfold cZ at h;by_cases a:v=i
  ·subst a;by_cases c:v<(cZ b vs).length
   ·rw[Wq c] at h;cases h
   ·rw[Wn (by simpa using c)] at h;cases h
  ·rw[Ww a] at h;obtain⟨d,f⟩:=AV h;exact⟨d,by simp only[Vo,not_or];exact⟨λe=>a e.symm,f⟩⟩
noncomputable abbrev Cx.fI(X:Cx)(s:Shared)(H:Hp)(c:Scope)(a:Env)(b:bL):Cx:={X with gN:=s,qS:=H,ag:=a,aH:=X.g6,ex:=b,fn:=λx=>c.names.lookup x==some .cell,pn:=[],xe:=λ_ _=>False}
section
variable{X:Cx}{aa:bK}{U:St}{H:Hp}{s:Shared}
def JU{h:Scope}{own:List (Str×Nat)}{S:bL}(g:Inv X aa U H s)(D:qP X.N X.ag.scope h own)(ah:X.N.Nodup)(G:∀b∈S,ke X aa H b/\b<s.heap.objs.size):
  Inv (X.fI s H h (compEnvC h (cellsFrom (s.heap.objs.size+1) h.names (gk X.ag.cells h.names [])) s.heap.objs.size X.ag) S) [] (cZ U (own.map (·.2))) H {s with heap:=pushCells (s.heap.push {cls:=.type "dict",data:=.dict #[]}) h.names}:=by
 have ai:∀y∈h.names,y.2=.free->∃c,X.ag.cells.lookup y.1=some c:=λy x e=>by
  rcases D.free y x e with k|k
  ·exact g.ok.has _ (.inl k)
  ·exact g.ok.has _ (.inr k)
 generalize L:compEnvC h (cellsFrom (s.heap.objs.size+1) h.names (gk X.ag.cells h.names [])) s.heap.objs.size X.ag=f;have R:∀b o,s.heap.get? b=some o->(pushCells (s.heap.push {cls:=.type "dict",data:=.dict #[]}) h.names).get? b=some o:=λb o e=>pushCells_keeps _ _ _ _ (Vk _ e);have O:f.locals=s.heap.objs.size:=by rw[<-L];rfl
 have E:f.cells=cellsFrom (s.heap.objs.size+1) h.names (gk X.ag.cells h.names []):=by rw[<-L];rfl
 have V:f.scope=Rm h X.ag.scope:=by rw[<-L];rfl
 rw[<-Wb s.heap {cls:=.type "dict",data:=.dict #[]}] at E;have K:∀{y c},(y,c)∈gk X.ag.cells h.names []->X.ag.cells.lookup y=some c/\c<s.heap.objs.size:=λ{y c} t=>by
  rcases uA t with t|⟨j,rfl⟩
  ·cases t
  ·obtain⟨c,Y⟩:=ai _ j rfl;rw[Y];obtain⟨w,d⟩:=g.cell _ _ Y;exact⟨rfl,d.lt⟩
 have W:∀{y c},f.cells.lookup y=some c->(X.ag.cells.lookup y=some c/\c<s.heap.objs.size)\/(s.heap.objs.size+1<=c/\AY (pushCells (s.heap.push {cls:=.type "dict",data:=.dict #[]}) h.names) c none):=λ{y c} e=>by
  rw[E] at e;rcases rF (V4 e) with t|⟨_,v,af⟩
  ·exact .inl (K t)
  ·rw[Wb] at v;exact .inr ⟨v,af⟩
 have ac:∀{y},h.names.lookup y=some .free->∃c,f.cells.lookup y=some c/\X.ag.cells.lookup y=some c:=λ{y} Q=>by
  have x:(y,NameKind.free)∈h.names:=V4 Q;obtain⟨M,l⟩:=yV (uz (names:=h.names) (n:=(s.heap.push {cls:=.type "dict",data:=.dict #[]}).objs.size) (xP (cells:=X.ag.cells) (b_:=[]) x));rw[<-E] at l;refine⟨M,l,?_⟩;rw[E] at l;rcases rF (V4 l) with t|⟨j,_,_⟩
  ·exact(K t).1
  ·have:=D.AN _ j;rw[Q] at this;cases this
 have an:(X.fI s H h f S).Ok:=by
  refine⟨g.ok.mod,by show f.scope.kind=_;rw[V];exact D.kind,by show f.globals=_;rw[<-L];exact g.ok.mD,by show f.builtins=_;rw[<-L];exact g.ok.pM,by show s.heap.objs.size<=f.locals;rw[O];exact Vm _,
   λy d c z A=>?_,λy x=>?_,λy c d e=>?_,g.ok.hd,g.ok.frames,.inl rfl,λb B=>⟨?_,λy c e d=>?_⟩,g.bs,Vy g.ok.mj g.sz,λb o e B=>?_,λb B d=>?_,g.g6,g.Ix⟩
  ·have z:f.cells.lookup y=some c:=z;have A:f.cells.lookup d=some c:=A;rw[E] at z A;refine xN (λp I=>?_) (λy d c a b=>g.ok.inj y d c (K a).1 (K b).1) (V4 z) (V4 A);rw[Wb];exact Nat.lt_succ_of_lt (K (y:=p.1) (c:=p.2) I).2
  ·show ∃c,f.cells.lookup y=some c;have J:∀k,f.kindOf y=some k->(k=.cell\/k=.free)->∃c,f.cells.lookup y=some c:=λk F T=>by
    unfold Env.kindOf at F;rw[V] at F;obtain⟨C,e,r⟩:=yP F;have:C=.cell\/C=.free:=by
     rcases r with rfl|⟨rfl,_⟩
     ·exact T
     ·exact .inr rfl
    rcases this with rfl|rfl
    ·obtain⟨c,t⟩:=xM (n:=(s.heap.push {cls:=.type "dict",data:=.dict #[]}).objs.size) (b_:=gk X.ag.cells h.names []) (V4 e);obtain⟨M,l⟩:=yV t;exact⟨M,by rw[E];exact l⟩
    ·obtain⟨c,j,_⟩:=ac e;exact⟨c,j⟩
   rcases x with x|x
   ·exact J _ x (.inl rfl)
   ·exact J _ x (.inr rfl)
  ·have d:(h.names.lookup y==some NameKind.cell)=true:=d;have d:h.names.lookup y=some .cell:=by simpa using d
   have e:f.cells.lookup y=some c:=e;rw[E] at e;rcases rF (V4 e) with t|⟨_,v,_⟩
   ·rcases uA t with t|⟨j,_⟩
    ·cases t
    ·have q:=D.AN _ j;rw[d] at q;cases q
   ·rw[Wb] at v;exact Nat.le_of_succ_le v
  ·show b≠f.locals;rw[O];exact Wc (G b B).2
  ·have e:f.cells.lookup y=some c:=e;rcases W e with ⟨j,_⟩|⟨j,_⟩
   ·exact(G b B).1.2.2.2.2.1 y c j d
   ·have v:s.heap.objs.size+1<=b:=by rw[<-d];exact j
    exact absurd (VR (G b B).2 (Nat.le_of_succ_le v)) (WV _)
  ·rcases(G b B).1.2.2.2.1 with d|d
   ·exact g.ok.sx b o e d
   ·exact absurd (VR (VD e) (Vy g.ok.mj d)) (WV _)
  ·rcases Vo.mp (g.AD b d) with d|d
   ·exact(G b B).1.2.1 d
   ·exact(G b B).1.2.2.1 d
 refine⟨an,rfl,g.gi,Un.kept R,⟨λ_=>none,?_,λi y ae z A u=>?_⟩,λy c e=>?_,?_,λy c e=>?_,λp I=>?_,g.aK.kept R,by rw[AU];exact g.aC⟩
 ·show Heap.Ns _ f.locals _;rw[O];exact Heap.Ns.keeps (Heap.Ns.new ..) λb o e=>pushCells_keeps _ _ _ _ e
 ·obtain⟨A,ak⟩:=AV A;have P:h.names.lookup y=some .free/\(f.kindOf y=some .cell\/f.kindOf y=some .free):=by
   have J:∀k,f.scope.names.lookup y=some k->k=.local\/k=.cell\/k=.free->h.names.lookup y=some .free/\(f.kindOf y=some .cell\/f.kindOf y=some .free):=λk F T=>by
    have ab:=F;rw[V] at F;obtain⟨C,e,r⟩:=yP F;have ad:¬(C=.local\/C=.cell):=λaj=>by
     rcases D.own _ (V4 e) aj with l|l
     ·obtain⟨p,I,al⟩:=Vz.mp l;have u:=D.ix p I;have:p.1=y:=al;rw[this] at u;exact ak (Vz.mpr ⟨p,I,zb ah u z⟩)
     ·exact l (Vf z)
    rcases r with rfl|⟨rfl,rfl⟩
    ·rcases T with rfl|rfl|rfl
     ·exact absurd (.inl rfl) ad
     ·exact absurd (.inr rfl) ad
     ·exact⟨e,.inr ab⟩
    ·exact⟨e,.inl ab⟩
   have u:pJ f.scope y:=u;rcases u with u|u|u
   ·exact J _ u (.inl rfl)
   ·exact J _ u (.inr (.inl rfl))
   ·exact J _ u (.inr (.inr rfl))
  obtain⟨m,ao,Q⟩:=g.iS;have am:pJ X.ag.scope y:=(D.free _ (V4 P.1) rfl).elim (λk=>.inr (.inl k)) (λk=>.inr (.inr k));obtain⟨w,r,q⟩:=Q i y ae z A am;refine⟨w,r,.inr ⟨P.2,?_⟩⟩;obtain⟨c,j,v⟩:=ac P.1;rcases q with ⟨k,_⟩|⟨_,M,l,d⟩
  ·have k:X.ag.scope.names.lookup y=some .local:=k;rcases D.free _ (V4 P.1) rfl with C|C<;>rw[show X.ag.scope.names.lookup y=_ from C] at k<;>cases k
  ·rw[v] at l;cases l;exact⟨c,j,d.keeps R⟩
 ·have e:f.cells.lookup y=some c:=e;rcases W e with ⟨j,_⟩|⟨_,d⟩
  ·obtain⟨w,d⟩:=g.cell y c j;exact⟨w,d.keeps R⟩
  ·exact⟨_,d⟩
 ·show H f.locals=none;rw[O];exact g.aK.dP (Vm _)
 ·have e:f.cells.lookup y=some c:=e;rcases W e with ⟨j,_⟩|⟨j,_⟩
  ·exact g.k6 y c j
  ·exact g.aK.dP (Nat.le_of_succ_le j)
 ·exact absurd (show p∈([]:bK)++[] from I) (by simp)
def JG{E:ci}{a:Addr}{xs:aQ}{y:V}{v:Value}{Q:ci}(c:Inv X aa U H s)(d:H a=some (.aq xs))(k:xs.length<sizeLine)(r:bM y v)
  (h:∀i,Inv X aa U (ai H a (.aq (xs++[y]))) i->Q .none i):wpAny (model X.prog X.w) X.A (call (.builtin "list.append") [.ref a,v]) Q E s:=by
 obtain⟨p,l,n,g,e⟩:=c.aK a _ d;have o:=g.length;refine append_at (hsz:=by rw[VA];lia) e λh' m f=>?_;refine h {s with heap:=h'} (c.eV (t':=s.toks) (by rw[d];trivial) (.inl rfl) (λb u j q=>(m.2 b j).trans q) ⟨_,f⟩ ⟨by rw[Vw];exact k,l++[v],n+1,g.append (.cons r .nil),?_⟩);rw[f];simp
def qY(X:Cx)(a:en)(d:TT):Prop:=
 ∀(aa:bK)(s:Shared)(U:St)(H:Hp)(Q:Bool->Hp->Prop),Inv X aa U H s->d U H Q->
  wpAny (model X.prog X.w) X.A (forIn a true λc r=>if r=true then do let b<-isTrue c X.ag (eval c X.ag);pure (ForInStep.yield b) else pure (ForInStep.yield r)) (TP X aa U Q) X.xe s
def qI:TT:=λ_ H Q=>Q true H
def iV:qY X [] qI:=λ_ _ _ H _ a h=>wpAny_tests_nil ⟨H,a,h⟩
def Fp{c:Expr}{a:TT}(h:PT X c a):qY X [c] a:=λaa s U H Q b d=>wpAny_tests_one (h aa s U H Q b d)
end
def qJ{d:Type}{c:Sem d}{Q b:d->Shared->Prop}{M:Model}{A:Around}{E:ci}{s:Shared}(h:wpAny M A c Q (λ_ _=>False) s)(e:∀a s,Q a s->b a s):wpAny M A c b E s:=W3 h e λ_ _ f=>False.elim f
def KJ{prog:Program}{w:World}{A:Around}{R:Result->Shared->Prop}{s:Shared}{j i t:Expr}{k:en}{y:Scope}{u:Pos}{g b_:Value}{a:Env}(d:Nat->Shared->Prop)
  (J:∀n s,d n s->wpAny (model prog w) A (pyNext g) (λr l=>match r with
   |none=>R (.ok .next) l
   |some v=>wpAny (model prog w) A (letOwnedTupleGo i g v) (λ_ z=>wpAny (model prog w) A (assign i a v) (λ_ B=>
     wpAny (model prog w) A (forIn k true λc r=>if r=true then do let f<-isTrue c a (eval c a);pure (ForInStep.yield f) else pure (ForInStep.yield r)) (λf o=>
      if f=true then wpAny (model prog w) A (eval j a) (λx C=>wpAny (model prog w) A (call (.builtin "list.append") [b_,x]) (λ_ D=>∃m,m<n/\d m D) (notedBy (model prog w) A a λe b=>R (.error e) b) C) (notedBy (model prog w) A a λe b=>R (.error e) b) o
      else ∃m,m<n/\d m o) (notedBy (model prog w) A a λe b=>R (.error e) b) B) (notedBy (model prog w) A a λe b=>R (.error e) b) z) (notedBy (model prog w) A a λe b=>R (.error e) b) l) (notedBy (model prog w) A a λe b=>R (.error e) b) s)
  (n:Nat)(h:d n s):
  codeAny (model prog w) A (.compLoop (.ListComp j [⟨i,t,k,0⟩] y u) 0 g b_ a) R s:=by
 refine codeAny_loop rfl d (λn s E=>?_) n h;show wpAny _ A ((compTurn (.ListComp j [⟨i,t,k,0⟩] y u) 0 g b_ a).onRaise (λx=>do noteFrame x a;theTreesLotGoes x)) _ _ s;refine wpAny_noted ?_;rw[compTurn_list];refine Vi (wpAny_standAt (Vi (W3 (J n s E) (λr l p=>?_) λ_ _ h'=>h')));cases r with
 |none=>exact VL p
 |some v=>
  refine Vi (W3 p (λ_ z F=>?_) λ_ _ h'=>h');refine Vi (W3 F (λ_ B G=>Vi (W3 G (λf o q=>?_) λ_ _ h'=>h')) λ_ _ h'=>h');cases f with
  |false=>exact VL ⟨rfl,q⟩
  |true=>exact Vi (Vi (W3 q (λx C H=>Vi (W3 H (λ_ D I=>VL (VL ⟨rfl,I⟩)) λ_ _ h'=>h')) λ_ _ h'=>h'))
section
variable{X:Cx}
def tD(s:TI)(p:TG)(r:TT)(q:TE)(vs:List Nat):TE:=λg H Q=>s g H λd j=>∀a,j a=none->∃f:Nat->Nat->Hp->Prop,(∃m,f 0 m (ai j a (.aq [])))/\∀i m H,f i m H->
 (d.kI i H/\Q (.ref a) H)\/(d.go i H/\∃e:Hp->Prop,(∀c,e c->∃n,n<m/\f (i+1) n c)/\∀x c,d.n_ i H x c->p x (cZ g vs) c λh o=>cZ h vs=cZ g vs/\r h o λb k=>
  if b=true then q h k λy l=>∃b_,l a=some (.aq b_)/\b_.length<sizeLine/\e (ai l a (.aq (b_++[y]))) else e k)
def Dy{aa:bK}{s:Shared}{E:St}{H:Hp}{Q:VK}{ab R M:Expr}{ad:en}{d:Scope}{own:List (Str×Nat)}{au bx:Pos}{a0:TI}{aG:TG}{aY:TT}{aX:TE}{use:Option (Value->Sem Unit)}{Qf:ci}
  (aI:X.ki=true)(bc:X.N.Nodup)(am:Inv X aa E H s)(bj:PI X R M a0)(ae:qP X.N X.ag.scope d own)
  (bi:∀(s:Shared)(H:Hp)(C:Addr)(cl:eJ)(f:bL),PG (X.fI s H d (compEnvC d cl C X.ag) f) R aG)(bp:∀(s:Shared)(H:Hp)(C:Addr)(cl:eJ)(f:bL),qY (X.fI s H d (compEnvC d cl C X.ag) f) ad aY)
  (bg:∀(s:Shared)(H:Hp)(C:Addr)(cl:eJ)(f:bL),PE (X.fI s H d (compEnvC d cl C X.ag) f) ab aX)(bn:∀x,foldedSetIterable M X.ag x=pure x)
  (h:tD a0 aG aY aX (own.map (·.2)) E H Q)
  (be:∀t C z m l,Inv X aa E l z->Q (.ref t) l->z.heap.Ns C m->ke X aa l C->compPost (model X.prog X.w) X.A X.xe use Qf (.ref t) C (.ok .next) z):
  wpAny (model X.prog X.w) X.A (comprehension (.ListComp ab [⟨R,M,ad,0⟩] d au) d X.ag bx (newList []) false (eval M X.ag) use) Qf X.xe s:=by
 have bh:∀y∈d.names,y.2=.free->∃c,X.ag.cells.lookup y.1=some c:=λy ao e=>by
  rcases ae.free y ao e with k|k
  ·exact am.ok.has _ (.inl k)
  ·exact am.ok.has _ (.inr k)
 refine wpAny_comprehension_free (use:=use) rfl bn (KI bh) ae.kind (λy ao e=>by rw[ae.AN y ao,e])
  (bu (bj aa s E H _ am h) λbY bV bq=>bu bq λbU O a_=>?_)
 obtain⟨aN,f,ak,bS,F,e,aA,T,aU,aE,q⟩:=a_;subst e;refine wpAny_newObj_type (OM ?_) (by show 0<=sizeLine;decide);generalize ac:O.heap.objs.size=t;have bb:F t=none:=aA.aK.dP (Nat.le_of_eq ac);obtain⟨aC,⟨bt,aZ⟩,bN⟩:=q t bb;generalize aL:({O with heap:=O.heap.push {cls:=.type "list",data:=.seq ([]:bD).toArray}}:Shared)=a;have S:Inv X aa E (ai F t (.aq [])) a:=by rw[<-aL];refine aA.jt (t':=O.toks) (λb o e=>Vk _ e) (Nat.le_of_eq ac) ⟨We _,[],0,.nil,?_⟩;rw[<-ac];exact VM _ rfl
 have aH:a.heap=O.heap.push {cls:=.type "list",data:=.seq ([]:bD).toArray}:=by rw[<-aL]
 have bJ:∀b∈f,b<O.heap.objs.size:=λb g=>by obtain⟨o,e,_⟩:=T.obj _ _ aU b g;exact VD e
 have I:∀b∈f,ke X aa (ai F t (.aq [])) b/\b<a.heap.objs.size:=λb g=>by have aJ:=bJ b g;refine⟨⟨?_,(aE b g).2⟩,by rw[aH,Wb];exact Nat.lt_succ_of_lt aJ⟩;rw[bA (by rw[<-ac];exact Wc aJ)];exact(aE b g).1
 have bH:ak 0 a.heap:=T.keep _ _ _ aU λb _ o e=>by rw[aH];exact Vk _ e
 have V:=JU S ae bc I;have as:=bi a (ai F t (.aq [])) a.heap.objs.size (cellsFrom (a.heap.objs.size+1) d.names (gk X.ag.cells d.names [])) f;have av:=bp a (ai F t (.aq [])) a.heap.objs.size (cellsFrom (a.heap.objs.size+1) d.names (gk X.ag.cells d.names [])) f;have ar:=bg a (ai F t (.aq [])) a.heap.objs.size (cellsFrom (a.heap.objs.size+1) d.names (gk X.ag.cells d.names [])) f;show codeAny _ _ (.compStart (.ListComp ab [⟨R,M,ad,0⟩] d au) 0 (.ref aN) (.ref t) (compEnvC d (cellsFrom (a.heap.objs.size+1) d.names (gk X.ag.cells d.names [])) a.heap.objs.size X.ag)) (compPost (model X.prog X.w) X.A X.xe use Qf (.ref t) a.heap.objs.size) {a with heap:=pushCells (a.heap.push {cls:=.type "dict",data:=.dict #[]}) d.names};have aQ:∀b∈f,(ai F t (.aq [])) b=none:=λb g=>(I b g).1.1;generalize bf:compEnvC d (cellsFrom (a.heap.objs.size+1) d.names (gk X.ag.cells d.names [])) a.heap.objs.size X.ag=B at V as av ar ⊢;have aD:B.locals=a.heap.objs.size:=by subst bf;rfl
 generalize bT:ai F t (.aq [])=D at S V as av ar aZ aQ I;generalize bo:({a with heap:=pushCells (a.heap.push {cls:=.type "dict",data:=.dict #[]}) d.names}:Shared)=aS at V ⊢;have aV:ak 0 aS.heap:=T.keep _ _ _ bH λb _ o e=>by rw[<-bo];exact pushCells_keeps _ _ _ _ (Vk _ e)
 have ay:∀{a1:St}{l:Hp}{z:Shared},Inv (X.fI a D d B f) [] a1 l z->(∀b∈f,l b=none)->∀b∈f,ke (X.fI a D d B f) [] l b:=λ{a1 l z} J L b g=>⟨L b g,(J.ok.uK b g).1,J.ok.rQ b g,.inl g,λx c e=>(J.ok.uK b g).2 x c e,λp bm=>absurd (show p∈([]:bK)++[] from bm) (by simp)⟩
 have aO:codeAny (model X.prog X.w) X.A (.compLoop (.ListComp ab [⟨R,M,ad,0⟩] d au) 0 (.ref aN) (.ref t) B) (compPost (model X.prog X.w) X.A X.xe use Qf (.ref t) a.heap.objs.size) aS:=by
  refine KJ (λn z=>∃i l,Inv (X.fI a D d B f) [] (cZ E (own.map (·.2))) l z/\ak i z.heap/\(∀b∈f,l b=none)/\aC i n l) ?_ bt ⟨0,D,V,aV,aQ,aZ⟩;rintro n aT ⟨i,G,W,aW,aP,bP⟩;rcases bN i n G bP with ⟨bI,bB⟩|⟨a9,a8,bd,step⟩
  ·have td:=T.done (X.fI a D d B f) rfl rfl rfl aI i [] aT _ G (λ_ _=>False) W (ay W aP) aW bI;refine qJ td λr aj ⟨an,K⟩=>?_;subst an;have Y:Inv X aa E G aj:=S.Km (ch:=f) K.os K.ah K.aK K.gi λb g=>⟨(I b g).1.2.2.2.1,(I b g).1.2.1,(I b g).1.2.2.2.2.1,(I b g).1.2.2.2.2.2⟩
   have bw:G a.heap.objs.size=none:=by have P:G B.locals=none:=K.free;rw[aD] at P;exact P
   obtain⟨m,L,_⟩:=K.iS;have L:aj.heap.Ns B.locals m:=L;rw[aD] at L;exact be t a.heap.objs.size aj m G Y bB L (S.np (Vm _) bw)
  ·have bM:=T.item (X.fI a D d B f) rfl rfl rfl aI i [] aT _ G (λ_ _=>False) W (ay W aP) aW a9;refine qJ bM λr aj ⟨u,an,a'⟩=>?_;subst an;refine qJ a' λ_ aw ⟨x,az,Y,bE,bQ,ax,bv⟩=>?_;have a6:=Y.E5 (ay Y bv) (T.obj _ _ ax);refine qJ (as _ aw _ az x u _ a6 bE (step x az bQ)) λ_ bF ⟨al,a2,a7,aM,bz⟩=>?_;refine qJ (av _ bF al a2 _ a7 bz) λb bG ⟨a3,aB,af⟩=>?_;have aF:∀{z:Shared}{l:Hp},Inv (X.fI a D d B f) ([]++sP f aw.heap) al l z->a8 l->∃m,m<n/\∃i l,Inv (X.fI a D d B f) [] (cZ E (own.map (·.2))) l z/\ak i z.heap/\(∀b∈f,l b=none)/\aC i m l:=λ{z l} J ap=>by
    obtain⟨bs,bl,bO⟩:=bd l ap;have aR:∀b∈f,∀o,aw.heap.get? b=some o->z.heap.get? b=some o/\l b=none:=λb g o e=>
     let P:=J.j3 (b,o) (WC _ (WC _ (yW g e)))
     ⟨P.1,P.2.1⟩
    have bk:(cZ E (own.map (·.2))).length=al.length:=by rw[<-aM,AU]
    refine⟨bs,bl,i+1,l,(J.wQ (aa:=[])).TM bk (λj v e=>?_),T.keep _ _ _ ax λb g o e=>(aR b g o e).1,λb g=>?_,bO⟩
    ·rw[<-aM] at e;exact(AV e).1
    ·obtain⟨o,e,_⟩:=T.obj _ _ ax b g;exact(aR b g o e).2
   cases b with
   |false=>simp only[Bool.false_eq_true,W5] at af ⊢;exact aF aB af
   |true=>simp only[WF] at af ⊢;refine qJ (ar _ bG al a3 _ aB af) λP bW ⟨bZ,bR,a4,bC,b_,ba,br,ap⟩=>?_;exact JG (X:=X.fI a D d B f) a4 ba br bC λbX a5=>aF a5 ap
 exact codeAny_compStart_list aO (T.lU X.A 0 _ _ _ aV aO)
def j2{i g d:Expr}{k:en}{a:Scope}{own:List (Str×Nat)}{P:Pos}{p:TI}{j:TG}{n:TT}{l:TE}(F:X.ki=true)(D:X.N.Nodup)(J:PI X g d p)(O:qP X.N X.ag.scope a own)
  (I:∀(s:Shared)(H:Hp)(C:Addr)(cl:eJ)(c:bL),PG (X.fI s H a (compEnvC a cl C X.ag) c) g j)(M:∀(s:Shared)(H:Hp)(C:Addr)(cl:eJ)(c:bL),qY (X.fI s H a (compEnvC a cl C X.ag) c) k n)
  (G:∀(s:Shared)(H:Hp)(C:Addr)(cl:eJ)(c:bL),PE (X.fI s H a (compEnvC a cl C X.ag) c) i l)(L:∀x,foldedSetIterable d X.ag x=pure x:=by intro _;rfl):
  PE X (.ListComp i [⟨g,d,k,0⟩] a P) (tD p j n l (own.map (·.2))):=by
 intro aa s W H Q u h;rw[eval_ListComp];refine Dy F D u J O I M G L h λr C R m t v q K f=>⟨m,K,λV S=>?_⟩
 obtain⟨w,y,T,z,A,B⟩:=f;exact⟨.ref r,t,v.lB (t':=R.toks) (λb o E e=>(S.2 b E).trans e) w y z A B,rfl,q⟩
def sR{i:Nat}{y:Str}{p:Pos}{l g d:Expr}{k:en}{c:Scope}{own:List (Str×Nat)}{n J:Pos}{z:TI}{r:TG}{w:TT}{u:TE}(ad:X.ki=true)(G:X.N.Nodup)(an:X.N[i]? =some y)(I:X.ag.scope.names.lookup y=some .local)
  (al:swapsWith (.ListComp l [⟨g,d,k,0⟩] c n) (some (.Name y p)) J.line X.ag=pure true)(ah:PI X g d z)(ao:qP X.N X.ag.scope c own)
  (af:∀(s:Shared)(H:Hp)(C:Addr)(cl:eJ)(j:bL),PG (X.fI s H c (compEnvC c cl C X.ag) j) g r)(am:∀(s:Shared)(H:Hp)(C:Addr)(cl:eJ)(j:bL),qY (X.fI s H c (compEnvC c cl C X.ag) j) k w)
  (ae:∀(s:Shared)(H:Hp)(C:Addr)(cl:eJ)(j:bL),PE (X.fI s H c (compEnvC c cl C X.ag) j) l u)(ak:∀x,foldedSetIterable d X.ag x=pure x:=by intro _;rfl):
  PS X (.Assign [.Name y p] (.ListComp l [⟨g,d,k,0⟩] c n) J) (qD (tD z r w u (own.map (·.2))) (dA i)):=by
 intro aa s K H D P h;rw[exec_Assign_Name_used _ _ _ _ al];refine Vi (wpAny_standAt (Vi ?_));show wpAny _ X.A (do let _<-comprehension (.ListComp l [⟨g,d,k,0⟩] c n) c X.ag (firstIterPos [⟨g,d,k,0⟩] n) (newList []) false (eval d X.ag) (some (assign (.Name y p) X.ag))) _ _ s;have h:tD z r w u (own.map (·.2)) K H (λx O=>dA i x K O D.nx):=h;refine Vi (bu (Dy (Qf:=λ_ t=>SP X aa D .next t) ad G P ah ao af am ae ak h λL C t m M Q q ai f=>?_) λ_ t aj=>VL (VL aj));show wpAny _ _ (assign (.Name y p) X.ag (.ref L)) _ _ _;refine wpAny_assign_Name (Iy (v:=V.ref L) Q G an (.inl I) rfl (λap R ⟨a,aq,Y⟩=>?_) (.inr I));obtain⟨S,E,as,T,F,W⟩:=f;have ab:C≠a:=by
  rcases Y with B|B
  ·rw[B];exact E
  ·exact λe=>F y a B e.symm
 refine⟨m,ai.sameBut aq ab,λau ar=>?_⟩;exact⟨_,M,R.lB (t':=ap.toks) (λb o ac e=>(ar.2 b ac).trans e) S E T F W,q⟩
def tu{e:Expr}{f:List Comprehension}{d:Scope}{b c:Pos}{y:Str}{l:Nat}{a:Env}(i:a.scope.kind=.function)(m:a.scope.names.lookup y=some .local)(j:(c.line==b.line)=true)
  (g:(d.names.any λ(n,k)=>n==y&&(k==.local||k==.cell))=false):swapsWith (.ListComp e f d b) (some (.Name y c)) l a=pure true:=by
 have o:a.kindOf y=some .local:=m;have h:a.blockKind=.function:=by unfold Env.blockKind;rw[i];rfl
 unfold swapsWith;simp only[h,o,g,Expr.pos,j];rfl
end
noncomputable def gC(N:cR)(b a:Scope)(own:List (Str×Nat)):Bool:=
 (match a.kind with| .function=>true|_=>false)&&(a.names.all λy=>decide (a.names.lookup y.1=some y.2))&&(own.all λp=>decide (N[p.2]? =some p.1))&&
  (a.names.all λy=>match y.2 with
   | .free=>(match b.names.lookup y.1 with|some .cell=>true|some .free=>true|_=>false)
   | .local=>decide (y.1∈own.map (·.1))||decide (y.1∉N)
   | .cell=>decide (y.1∈own.map (·.1))||decide (y.1∉N)
   |_=>true)
def hW{N:cR}{d f:Scope}{own:List (Str×Nat)}(h:gC N d f own=true):qP N d f own:=by
 unfold gC at h;simp only[Vt,VO,Vp] at h;obtain⟨⟨⟨b,g⟩,i⟩,c⟩:=h;refine⟨?_,g,i,λy a e=>?_,λy a e=>?_⟩
 ·split at b
  ·assumption
  ·cases b
 ·have q:=c y a;simp only[e] at q;split at q<;>first|exact .inl (by assumption)|exact .inr (by assumption)|cases q
 ·have q:=c y a;rcases e with e|e<;>(simp only[e,Bool.or_eq_true,Vp] at q;exact q)
section
variable{κ:Type}[DecidableEq κ]
def ij(b:List (κ×V))(k:κ):b9:=(b.find? λa=>decide (a.1=k)).map (·.2)
noncomputable def j4(b:List (κ×V))(k:κ)(v:V):List (κ×V):=
 if (b.any λa=>decide (a.1=k))=true then b.map (λa=>if a.1=k then (a.1,v) else a) else b++[(k,v)]
def n6{p:κ×V}{r:List (κ×V)}{k:κ}(e:p.1=k):ij (p::r) k=some p.2:=by simp[ij,List.find?_cons,e]
def n4{p:κ×V}{r:List (κ×V)}{k:κ}(e:¬p.1=k):ij (p::r) k=ij r k:=by simp[ij,List.find?_cons,e]
theorem wS(k:κ):∀a:List (κ×V),(a.any λb=>decide (b.1=k))=(ij a k).isSome
 |[]=>rfl
 |p::r=>by
  rw[WW];by_cases e:p.1=k
  ·simp only[n6 e,Vx e,Bool.true_or,Option.isSome_some]
  ·rw[n4 e,VF e,Bool.false_or];exact wS k r
theorem Ji(k j:κ)(y:V):∀c:List (κ×V),ij c k=none->ij (c++[(k,y)]) j=if j=k then some y else ij c j
 |[],_=>by
  by_cases e:k=j
  ·rw[Vh e.symm];exact n6 (p:=(k,y)) e
  ·rw[Vg (λa=>e a.symm)];exact n4 (p:=(k,y)) e
 |p::r,b=>by
  rw[List.cons_append];have d:¬p.1=k:=λa=>by rw[n6 a] at b;cases b
  rw[n4 d] at b;have f:=Ji k j y r b;by_cases e:p.1=j
  ·rw[n6 e,n6 e,Vg (λa=>d (e.trans a))]
  ·rw[n4 e,n4 e,f]
def DE(a:List (κ×V))(k:κ)(v:V):(j4 a k v).length<=a.length+1:=by
 unfold j4;split
 ·rw[Vn];lia
 ·rw[Vw,Vu,List.length_nil];lia
def iL.yy{o:b9}{u:jN}(r:iL o u):o.isSome=u.isSome:=by
 cases o with
 |none=>cases u with
  |none=>rfl
  |some _=>exact(show False from r).elim
 |some _=>cases u with
  |none=>exact(show False from r).elim
  |some _=>rfl
def KV.val{f:List (κ×V)}{vs:List (κ×Value)}(r:KV f vs)(k:κ):iL (ij f k) (valueAt vs k):=by
 unfold KV at r;induction r with
 |nil=>exact True.intro
 | @cons p q ps c h t i=>
  obtain⟨d,g⟩:=h;by_cases e:p.1=k
  ·have a:q.1=k:=d.symm.trans e;have b:valueAt (q::c) k=some q.2:=by simp[valueAt,List.find?_cons,a]
   rw[n6 e,b];exact g
  ·have a:¬q.1=k:=λj=>e (d.trans j);have b:valueAt (q::c) k=valueAt c k:=by simp[valueAt,List.find?_cons,a]
   rw[n4 e,b];exact i
def KV.any{b:List (κ×V)}{vs:List (κ×Value)}(r:KV b vs)(k:κ):(b.any λa=>decide (a.1=k))=vs.any λa=>decide (a.1=k):=by
 unfold KV at r;induction r with
 |nil=>rfl
 |cons h t c=>rw[WW,WW,c,h.1]
def KV.zO{c:List (κ×V)}{vs:List (κ×Value)}(r:KV c vs)(k:κ){y:V}{u:Value}(g:bM y u):
  KV (c.map λa=>if a.1=k then (a.1,y) else a) (vs.map λa=>if a.1=k then (a.1,u) else a):=by
 unfold KV at r ⊢;induction r with
 |nil=>exact .nil
 | @cons p q ps j h t f=>
  rw[Vv,Vv];refine .cons ?_ f;obtain⟨b,d⟩:=h;by_cases e:p.1=k
  ·rw[Vh e,Vh (b.symm.trans e)];exact⟨b,g⟩
  ·rw[Vg e,Vg (λi=>e (b.trans i))];exact⟨b,d⟩
def KV.put{a:List (κ×V)}{vs:List (κ×Value)}(r:KV a vs)(k:κ){y:V}{u:Value}(b:bM y u):KV (j4 a k y) (stored vs k u):=by
 unfold j4 stored;rw[r.any k];by_cases e:(vs.any λc=>decide (c.1=k))=true
 ·rw[Vh e,Vh e];exact r.zO k b
 ·rw[Vg e,Vg e];exact Xw r ⟨rfl,b⟩
def KV.length{a:List (κ×V)}{vs:List (κ×Value)}(r:KV a vs):a.length=vs.length:=VP r
end
def vb{P:Program}{w:World}{k:cg}{u:Value}(r:bM (kV k) u):(jZ P w).is k u=true:=by
 cases k with
 |inl i=>obtain⟨a,e⟩:=(show ∃a,u=Value.int i a from r);subst e;exact OC P w i a
 |inr x=>obtain⟨a,e⟩:=(show ∃a,u=Value.str x a from r);subst e;exact OD P w x a
theorem Dr{P:Program}{w:World}:∀{a:List cg}{us:bD},bH (a.map kV) us->ItemsAre (jZ P w) a us
 |[],_,r=>by rw[WH] at r;cases r;exact .nil
 |k::a,_,r=>by
  rw[Vv] at r;cases r with
  |cons h t=>exact .cons (vb h) (Dr t)
abbrev KT(H:Hp):List (List cg×V)->List (List cg×Addr×Value)->Prop:=Paired λp q=>p.1=q.1/\H q.2.1=some (.aN (p.1.map kV))/\bM p.2 q.2.2
def KT.val{H:Hp}{f:List (List cg×V)}{xs:List (List cg×Addr×Value)}(r:KT H f xs)(k:List cg):iL (ij f k) ((atKey xs k).map (·.2)):=by
 induction r with
 |nil=>exact True.intro
 | @cons p q ps c h t i=>
  obtain⟨d,_,g⟩:=h;by_cases e:p.1=k
  ·have a:q.1=k:=d.symm.trans e;have b:atKey (q::c) k=some q.2:=by simp[atKey,List.find?_cons,a]
   rw[n6 e,b];exact g
  ·have a:¬q.1=k:=λj=>e (d.trans j);have b:atKey (q::c) k=atKey c k:=by simp[atKey,List.find?_cons,a]
   rw[n4 e,b];exact i
def KT.zO{H:Hp}{d:List (List cg×V)}{xs:List (List cg×Addr×Value)}(r:KT H d xs)(k:List cg){y:V}{u:Value}(i:bM y u):
  KT H (d.map λb=>if b.1=k then (b.1,y) else b) (xs.map (putAt k u)):=by
 induction r with
 |nil=>exact .nil
 | @cons p q ps l h t g=>
  rw[Vv,Vv];refine .cons ?_ g;obtain⟨a,c,f⟩:=h;unfold putAt;by_cases e:p.1=k
  ·rw[Vh e,Vh (a.symm.trans e)];exact⟨a,c,i⟩
  ·rw[Vg e,Vg (λj=>e (a.trans j))];exact⟨a,c,f⟩
def KT.put{H:Hp}{a:List (List cg×V)}{xs:List (List cg×Addr×Value)}(r:KT H a xs)(k:List cg){b:Addr}{y:V}{u:Value}(d:H b=some (.aN (k.map kV)))(c:bM y u):
  KT H (j4 a k y) (storedH xs k b u):=by
 have e:(a.any λf=>decide (f.1=k))=(atKey xs k).isSome:=by rw[wS,(r.val k).yy,Option.isSome_map]
 unfold j4 storedH;rw[e];by_cases q:(atKey xs k).isSome=true
 ·rw[Vh q,Vh q];exact r.zO k c
 ·rw[Vg q,Vg q];exact Xw r ⟨rfl,d,c⟩
def KT.keeps{H c:Hp}{d:List (List cg×V)}{xs:List (List cg×Addr×Value)}(r:KT H d xs)(e:∀b ys,H b=some (.aN ys)->c b=some (.aN ys)):KT c d xs:=
 Paired.yU r λ_ _ a=>⟨a.1,e _ _ a.2.1,a.2.2⟩
section
variable{P:Program}{w:World}{H:Hp}{h:Heap}{a:Addr}
def FG{u:HO}(b:dq P w H h)(e:Rd H a u):ed P w H h a u:=e.ok b
def uC{b:List (cg×V)}(c:dq P w H h)(e:Rd H a (.dK b)):b.length<=sizeLine/\(a==sysModules)=false/\∃vs,KV b vs/\h.DictOf (jZ P w) a vs:=
 show ed P w H h a (.dK b) from FG c e
def Mw{b:List (cg×V)}(c:dq P w H h)(e:H a=some (.dK b)):b.length<=sizeLine/\(a==sysModules)=false/\∃vs,KV b vs/\h.DictOf (jZ P w) a vs:=uC c (.inl e)
def vi{b:List cg}(i:dq P w H h)(e:H a=some (.aN (b.map kV))):(tupleKind (jZ P w)).is h b a:=by
 obtain⟨_,g,r,o,c,d,n,f⟩:=(show ed P w H h a (.aN (b.map kV)) from i a _ e)
 exact⟨o,g.toArray,n,c,d,f,by simpa using Dr r⟩
def uG{c:List (List cg×V)}(f:dq P w H h)(e:Rd H a (.dT c)):c.length<=sizeLine/\(a==sysModules)=false/\
  ∃xs,KT H c xs/\h.DictOfH (tupleKind (jZ P w)) a xs:=by
 obtain⟨A,y,xs,r,o,j,i,k,n,s,u,v⟩:=(show ed P w H h a (.dT c) from FG f e)
 refine⟨A,y,xs,r,o,j,i,k,n,s,u,λx b=>?_,v⟩;have g:∀{l:List (List cg×V)}{m:List (List cg×Addr×Value)},KT H l m->∀x∈m,(tupleKind (jZ P w)).is h x.1 x.2.1:=by
  intro l m q;induction q with
  |nil=>intro x b;exact nomatch b
  | @cons p q ps B d t z=>
   intro x b;rcases Vo.mp b with e|b
   ·subst e;exact vi f (by rw[<-d.1];exact d.2.1)
   ·exact z x b
 exact g r x b
def ME{b:List (List cg×V)}(c:dq P w H h)(e:H a=some (.dT b)):b.length<=sizeLine/\(a==sysModules)=false/\
  ∃xs,KT H b xs/\h.DictOfH (tupleKind (jZ P w)) a xs:=uG c (.inl e)
end
def ka(H:Hp)(a:Addr)(y:V)(r:b9):Prop:=
 (∃c k,Rd H a (.dK c)/\y=kV k/\r=ij c k)\/∃c k b,Rd H a (.dT c)/\y=.ref b/\H b=some (.aN (k.map kV))/\r=ij c k
def pC(H:Hp)(a:Addr)(y v:V)(d:Hp):Prop:=
 (∃c k,H a=some (.dK c)/\y=kV k/\c.length<sizeLine/\d=ai H a (.dK (j4 c k v)))\/
 ∃c k b,H a=some (.dT c)/\y=.ref b/\H b=some (.aN (k.map kV))/\c.length<sizeLine/\d=ai H a (.dT (j4 c k v))
def ka.t{H:Hp}{a b:Addr}{c:List (List cg×V)}{k:List cg}(e:H a=some (.dT c))(d:H b=some (.aN (k.map kV))):ka H a (.ref b) (ij c k):=.inr ⟨c,k,b,.inl e,rfl,d,rfl⟩
def pC.t{H:Hp}{a b:Addr}{c:List (List cg×V)}{k:List cg}{v:V}(e:H a=some (.dT c))(d:H b=some (.aN (k.map kV)))(f:c.length<sizeLine):
  pC H a (.ref b) v (ai H a (.dT (j4 c k v))):=.inr ⟨c,k,b,e,rfl,d,f,rfl⟩
section
variable{X:Cx}{aa:bK}{U:St}{H:Hp}{s:Shared}{a:Addr}{y v:V}{u r:Value}{o:b9}{A:Around}{E:ci}
def Inv.JS(a:Inv X aa U H s):sysModules<s.heap.objs.size:=by have h:mainGlobals<s.heap.objs.size:=(a.mod.mD.keeps a.bk).lt;exact Nat.lt_trans ∅ h
def Lx{Q:ci}(C:A.units+1<cLine)(d:Inv X aa U H s)(t:ka H a y (some v))(n:bM y u)(h:∀c q,Inv X aa U H q->bM v c->Q c q):
  wpAny (model X.prog X.w) A (getItem (.ref a) u) Q E s:=by
 rcases t with ⟨D,k,e,g,l⟩|⟨D,k,b,e,g,r,l⟩
 ·subst g;obtain⟨F,x,vs,j,f⟩:=uC d.aK e;obtain⟨c,i,m⟩:=iL.Ay (v:=v) (o:=valueAt vs k) (by rw[l];exact j.val k);exact wpAny_getItem_of (vb n) f.mapOf i (h c _ (d.i6 _) m)
 ·subst g;cases (show u=Value.ref b from n);obtain⟨F,x,xs,j,f⟩:=uG d.aK e;obtain⟨c,i,m⟩:=iL.Ay (v:=v) (o:=(atKey xs k).map (·.2)) (by rw[l];exact j.val k);obtain⟨p,z,B⟩:=Option.map_eq_some_iff.mp i;refine wpAny_getItem_heap (tupleKind_room_in1 C) (vi d.aK r) f z ?_;rw[B];exact h c _ (d.i6 _) m
def LV{Q:ci}(r:A.units+1<cLine)(c:Inv X aa U H s)(p:ka H a y o)(j:bM y u)(h:∀m,Inv X aa U H m->Q (.bool (!o.isSome)) m):
  wpAny (model X.prog X.w) A (compareOp .NotIn u (.ref a)) Q E s:=by
 rcases p with ⟨t,k,e,f,l⟩|⟨t,k,b,e,f,n,l⟩
 ·subst f;obtain⟨v,g,vs,i,d⟩:=uC c.aK e;refine wpAny_notIn_of (vb j) g d.mapOf ?_;rw[<-(i.val k).yy, <-l];exact h _ (c.i6 _)
 ·subst f;cases (show u=Value.ref b from j);obtain⟨v,g,xs,i,d⟩:=uG c.aK e;refine wpAny_notIn_heap (tupleKind_room_in1 r) (vi c.aK n) g d ?_;have q:=(i.val k).yy;rw[Option.isSome_map] at q;rw[<-q, <-l];exact h _ (c.i6 _)
def B6{h':Heap}{t':Nat}{c:HO}(d:Inv X aa U H s)(i:qV (H a))(h:Heap.SameBut a s.heap h')(g:∃q,h'.get? a=some q)(new:ed X.prog X.w (ai H a c) h' a c):
  Inv X aa U (ai H a c) {s with heap:=h',toks:=t'}:=
 d.eV (x:=a) (e:=a) i (.inl rfl) (λb q f j=>(h.2 b f).trans j) g new
def Mv{P:Program}{w:World}{c:Hp}{h':Heap}{b:List (cg×V)}{vs:List (cg×Value)}(g:b.length<=sizeLine)(e:(a==sysModules)=false)(f:KV b vs)(d:h'.DictOf (jZ P w) a vs):
  ed P w c h' a (.dK b):=⟨g,e,vs,f,d⟩
def Mb{C:Hp}{Q:Unit->Shared->Prop}(T:A.units+1<cLine)(d:Inv X aa U H s)(M:pC H a y v C)(I:bM y u)(G:bM v r)(h:∀J,Inv X aa U C J->Q () J):
  wpAny (model X.prog X.w) A (setItem (.ref a) u r) Q E s:=by
 rcases M with ⟨f,k,e,p,l,o⟩|⟨f,k,b,e,p,D,l,o⟩
 ·subst p o;obtain⟨i,t,vs,g,n⟩:=Mw d.aK e;have B:vs.length<=sizeLine:=by rw[<-g.length];exact i
  have x:(j4 f k v).length<=sizeLine:=by have:=DE f k v;lia
  refine wpAny_setItem_pairs (hsz:=B) (vb I) n λh' j z=>h _ ?_;have S:∃q,h'.get? a=some q:=let ⟨q,_,_,m,_⟩:=j;⟨q,m⟩;exact B6 d (by rw[e];exact True.intro) z S (Mv x t (g.put k G) j)
 ·subst p o;cases (show u=Value.ref b from I);obtain⟨i,t,xs,g,n⟩:=ME d.aK e;have B:xs.length<=sizeLine:=by rw[<-VP g];exact i
  have x:(j4 f k v).length<=sizeLine:=by have:=DE f k v;lia
  refine wpAny_setItem_heap (hsz:=B) (tupleKind_room_in1 T) (vi d.aK D) n λh' j z=>h _ ?_;obtain⟨q,L,K,m,N,O,P,_,R⟩:=j;refine B6 d (by rw[e];exact True.intro) z ⟨q,m⟩ ⟨x,t,_,(g.put k D G).keeps λc ys F=>?_,q,L,K,m,N,O,P,R⟩;rw[bA (OJ F e (λi=>nomatch i))];exact F
end
def A4(i:Expr):Prop:=∀b a,subscripted i false b a=operate [b,a] (getItem b a)
def S7{prog:Program}{w:World}{A:Around}{E:ci}{s:Shared}{c:Env}{f a:Expr}{t:Pos}{T q:String}{Q:ci}
  (l:typeLookup (.type T) "__getitem__"=pure (some (.builtin q)))(m:A4 a)
  (h:wpAny (model prog w) A (eval f c) (λo j=>wpAny (model prog w) A (eval a c) (λi b=>b.TypeIs o T/\wpAny (model prog w) A (getItem o i) Q E b) E j) E s):
  wpAny (model prog w) A (eval (.Subscript f a t) c) Q E s:=by
 refine Subscript_ (W3 h (λo j n=>W3 n (λi b e=>?_) λ_ _ x=>x) λ_ _ x=>x);obtain⟨g,e⟩:=e;unfold subscriptTail;refine Vi ?_;rw[getitemInPython_of_ne g.not_modules];refine Vi (wpAny_specialOf g l ?_);have d:wpAny (model prog w) A (subscripted a false o i) (λr k=>wpAny (model prog w) A (letTemporaryGo f o r>>=λ_=>pure r) Q E k) E b:=by rw[m o i];exact wpAny_operating (W3 e (λr k p=>Vi (wpAny_letTemporaryGo (VL p))) λ_ _ x=>x)
 first
  |exact VL (Vi d)
  |exact Vi (VL (Vi d))
  |exact Vi d
def Ms{X:Cx}{aa:bK}{h:St}{H:Hp}{s:Shared}{a:Addr}{y:V}{o:b9}(d:Inv X aa h H s)(f:ka H a y o):s.TypeIs (.ref a) "dict":=by
 rcases f with ⟨g,k,e,_,_⟩|⟨g,k,b,e,_,_,_⟩
 ·obtain⟨_,_,vs,_,c⟩:=uC d.aK e;exact c.typeIs
 ·obtain⟨_,_,xs,_,c⟩:=uG d.aK e;exact c.typeIs
def IJ(td ty:TE):TE:=λc H Q=>td c H λx d=>ty c d λy b=>∃a v,x=.ref a/\ka b a y (some v)/\Q v b
def IK(ty td:TE):TE:=λc H Q=>ty c H λy d=>td c d λx b=>∃a o,x=.ref a/\ka b a y o/\Q (.bl (!o.isSome)) b
def FT(td ty h:TE):TS:=λd b H=>h b H λv e=>td b e λx f=>ty b f λy g=>∃a c,x=.ref a/\pC g a y v c/\d.nx b c
section
variable{X:Cx}{o i e value:Expr}{pos ie gP:Pos}{td ty tv:TE}
def Qv(q:X.A.units+1<cLine)(n:PE X o td)(m:PE X i ty)(p:A4 i):PE X (.Subscript o i pos) (IJ td ty):=by intro aa s d H Q g h;refine S7 PySem.F.slot_dict_getitem.lookup p (bu (n aa s d H _ g h) λu C ⟨x,e,j,z,r⟩=>bu (m aa C d e _ j r) λD E ⟨y,f,b,B,a,v,l,c,t⟩=>?_);subst l;obtain rfl:u=Value.ref a:=z;exact⟨Ms b c,Lx q b c B λI G k w=>⟨v,f,k,w,t⟩⟩
def Qs(p:X.A.units+1<cLine)(m:PE X i ty)(n:PE X o td):PC X .NotIn i o (IK ty td):=by intro aa s b H Q e h;refine bu (m aa s b H _ e h) λB z ⟨y,c,f,w,r⟩=>bu (n aa z b c _ f r) λu C ⟨x,d,g,v,a,q,k,l,t⟩=>?_;subst k;obtain rfl:u=Value.ref a:=v;exact LV p g l w λD j=>⟨.bl (!q.isSome),d,j,rfl,t⟩
def Q7(w:X.A.units+1<cLine)(q:PE X o td)(p:PE X i ty)(z:PE X value tv)(t:swapsWith value (some (.Subscript o i ie)) pos.line X.ag=pure false):
  PS X (.Assign [.Subscript o i ie] value pos) (FT td ty tv):=by
 intro aa s b H K f h;refine wpAny_Assign_Subscript (bu (z aa s b H _ f h) λr I ⟨v,c,g,E,B⟩=>bu (q aa I b c _ g B) λu J ⟨x,d,j,F,C⟩=>bu (p aa J b d _ j C) λM N ⟨y,L,k,G,a,e,m,n,D⟩=>?_) t;subst m;obtain rfl:u=Value.ref a:=F;exact Mb w k n G E λO l=>⟨b,e,l,D⟩
end
def MD{P:Program}{w:World}{H:Hp}(h:Heap)(a:sysModules<h.objs.size):ed P w H (h.push {cls:=.type "dict",data:=.dict #[]}) h.objs.size (.dT []):=
 ⟨We _,W8.mpr (Ne.symm (Wc a)),[],.nil,_,#[],0,VM _ rfl,⟨rfl,rfl,rfl⟩,rfl,rfl,List.nodup_nil⟩
def Ta:TE:=λ_ H Q=>∀p,H p=none->Q (.ref p) (ai H p (.dT []))
section
variable{X:Cx}{pos:Pos}
def Qw:PE X (.Dict [] [] pos) Ta:=λaa s c H Q b h=>wpAny_Dict_empty ⟨.ref s.heap.objs.size,_,b.jt (a:=s.heap.objs.size) (o:=.dT []) (t':=s.toks) (λ_ _ q=>Vk _ q) (Vm _) (MD s.heap b.JS),rfl,h _ (b.aK.dP (Vm _))⟩
end
section
variable{X:Cx}{aa:bK}{U:St}{H:Hp}{s:Shared}{h':Heap}
def Inv.Jg{t':Nat}{ch:bL}(h:Inv X aa U H s)(k:∀b o,b∉ch->s.heap.get? b=some o->h'.get? b=some o)(f:∀b∈ch,ke X aa H b):Inv X aa U H {s with heap:=h',toks:=t'}:=by
 have i:∀b u,H b=some u->b∉ch:=λb u e d=>by have q:=(f b d).1;rw[q] at e;cases e
 refine h.step (g':=s.gens) (d':=s.drawn) (ch:=ch) (λb g=>⟨(f b g).2.2.2.1,(f b g).2.1,(f b g).2.2.2.2.1,(f b g).2.2.2.2.2⟩) (λb o _ _ a e _=>k b o a e) (λb o _ _ a e _=>⟨o.slots,k b o a e⟩)
  (λ_ _ _ _ n=>n) (λb o a e=>⟨o,k b o a e⟩) (λ_ _ e=>e) (λ_ _ _ e=>e) (λb ps e=>⟨#[],by rw[e];simp⟩) (λm p=>?_) (λb u e=>?_) h.gi
 ·obtain⟨o,l,j,t,r⟩:=p;exact⟨o,l,j,k _ o (λd=>(f _ d).2.1 rfl) t,r⟩
 ·refine(h.aK b u e).iZ (λc v a q=>k c v ?_ q) (λ_ q=>q) λ_ _ q=>q;rcases a with d|d
  ·rw[d];exact i b u e
  ·exact i c _ d
def Inv.AM{t':Nat}{ch:bL}{T:Addr}{j:HO}(i:Inv X aa U H s)(k:∀b o,b∉ch->s.heap.get? b=some o->h'.get? b=some o)(g:∀b∈ch,ke X aa H b)(l:s.heap.objs.size<=T)
  (new:ed X.prog X.w (ai H T j) h' T j):Inv X aa U (ai H T j) {s with heap:=h',toks:=t'}:=by
 have h:H T=none:=i.aK.dP l;have p:∀b u,H b=some u->b∉ch:=λb u e f=>by have q:=(g b f).1;rw[q] at e;cases e
 refine i.step (g':=s.gens) (d':=s.drawn) (ch:=ch) (λb a=>⟨(g b a).2.2.2.1,(g b a).2.1,(g b a).2.2.2.2.1,(g b a).2.2.2.2.2⟩) (λb o _ _ d e _=>k b o d e) (λb o _ _ d e _=>⟨o.slots,k b o d e⟩)
  (λb o _ e n=>?_) (λb o d e=>⟨o,k b o d e⟩) (λb xs e=>?_) (λb o u e=>?_) (λb ps e=>⟨#[],?_⟩) (λm y=>?_) (λb u e=>?_) i.gi
 ·rw[bA (Wc (VR (VD e) l))];exact n
 ·rw[bA (dI e h)];exact e
 ·rw[bA (dI e h)];exact e
 ·rw[bA (dI e h),e];simp
 ·obtain⟨o,x,t,z,r⟩:=y;exact⟨o,x,t,k _ o (λf=>(g _ f).2.1 rfl) z,r⟩
 ·by_cases a:b=T
  ·subst a;rw[aS] at e;cases e;exact new
  ·rw[bA a] at e;refine(i.aK b u e).iZ (λc v d q=>k c v ?_ q) (λc q=>by rw[bA (dI q h)];exact q) λc xs q=>by rw[bA (dI q h)];exact q
   rcases d with f|f
   ·rw[f];exact p b u e
   ·exact p c _ f
end
section
variable{X:Cx}
def QL{f:Expr}{aa:bK}{g:St}{H:Hp}{s:Shared}{R:It->Hp->Prop}{c:It}{d:Nat->Heap->Prop}{tk:Nat}(a:Inv X aa g H s)(o:Obj)
  (T:mf X.prog X.w X.K f c [s.heap.objs.size] s.heap.objs.size d)(i:d 0 (s.heap.push o))(q:R c H):xh X aa g f R (.ref s.heap.objs.size) {s with heap:=s.heap.push o,toks:=tk}:=by
 refine⟨s.heap.objs.size,[s.heap.objs.size],d,c,H,rfl,a.kept λb j e=>Vk _ e,T,i,λb h=>?_,q⟩;have e:b=s.heap.objs.size:=by simpa using h
 subst e;exact a.np (Vm _) (a.aK.dP (Vm _))
end
def tJ(b c:Int)(n:Nat):It:=⟨λi _=>i<n,λi H x a=>a=H/\x=.int (b+(i:Nat)*c),λi _=>n<=i⟩
def Tp{P:Program}{w:World}{K:Frag}{tg:Expr}(it:Addr)(lo c:Int)(n:Nat):mf P w K tg (tJ lo c n) [it] it (λi h=>IsRangeIter h it (lo+(i:Nat)*c) ((n:Int)-(i:Nat)) c) where
 mem:=by simp
 obj:=λi h st b hb=>by
  have e:b=it:=by simpa using hb
  subst e;exact⟨_,st,λv z=>nomatch z⟩
 keep:=λi h h' st k=>k it (by simp) _ st
 item:=by intro X hP hw hK hc i aa s U H E I hf st hg;subst hP hw hK;obtain⟨f0,f1,f2,f3,f4,f5⟩:=hf it (by simp);have W:=Walks.range (prog:=X.prog) (w:=X.w) (I.ok.hd hc) it lo c n;refine W.item i s _ _ hg st λv h' tk hv st' kk=>?_;obtain⟨t,rfl⟩:=hv;have I1:Inv X aa U H {s with heap:=h',toks:=tk}:=I.lB (λb o hb e=>kk b o (by simpa using hb) e) f0 f1 f3 f4 f5;exact⟨_,rfl,uV (s:={s with heap:=h',toks:=tk}) (n:="range_iterator") st' rfl rfl ∅ ⟨.int (lo+(i:Nat)*c),H,I1,⟨t,rfl⟩,⟨rfl,rfl⟩,st',λb hb=>(hf b hb).1⟩⟩
 done:=by intro X hP hw hK hc i aa s U H E I hf st hg;subst hP hw hK;obtain⟨f0,f1,f2,f3,f4,f5⟩:=hf it (by simp);exact wpAny_pyNext_range_end (I.ok.hd hc) st (by have:n<=i:=hg;lia) λh' eb=>⟨rfl,I.lB (t':=s.toks) (λb o hb e=>eb b o hb e) f0 f1 f3 f4 f5⟩
 lU:=λA i s Q E st h=>wpAny_pyIter_rangeiter st h
def q_(i j c:Int)(n:Nat):Prop:=c≠0/\c.natAbs<1073741824/\Builtin.Range.small i j c=true/\Builtin.Range.rangeSize i j c=n
def Dk(b:TA):TI:=λd H R=>b d H λvs a=>∃(i j c:Int)(n:Nat),vs=[.int i,.int j,.int c]/\q_ i j c n/\R (tJ i c n) a
section
variable{X:Cx}{tg:Expr}
def sO{a b c:Expr}{l:TA}{p f:Pos}(D:Gl X "range")(E:X.mg "range"=none)(C:PA X [a,b,c] l)
  (G:starEach [a,b,c] X.ag=(false,eval a X.ag)::starEach [b,c] X.ag:=by rfl)(F:(backTo f (starEach [b,c] X.ag)).any (·.1)=false:=by rfl):
  PI X tg (.Call (.Name "range" p) [a,b,c] [] f) (Dk l):=by
 intro aa s m H R g h;refine Call_ (mL g D E boot_range (Wv (bu (C f aa s m H _ g h) λus d ⟨vs,t,u,K,I⟩=>?_) G F));obtain⟨i,j,k,n,e,⟨w,x,y,z⟩,q⟩:=I;subst e;cases K with
 |cons r rr=>
  cases rr with
  |cons r' rr=>
   cases rr with
   |cons J rr=>
    cases rr;obtain⟨L,rfl⟩:=r;obtain⟨t',rfl⟩:=r';obtain⟨M,rfl⟩:=J;refine call_range_3 w ?_ (.inl (PyProof.noPylong_small x));refine wpAny_pyIter_range (IsRange.new ..) y ?_;have v:Inv X aa m t {d with heap:=d.heap.push {cls:=.type "range",data:=.fields #[.int i L,.int j t',.int k M]}}:=u.kept (t':=d.toks) λb o e=>Vk _ e;refine QL (tk:=d.toks) v _ (Tp _ i k n) ?_ q;have A:i+((0:Nat):Int)*k=i:=by simp
    have B:(n:Int)-((0:Nat):Int)=Builtin.Range.rangeSize i j k:=by rw[z];simp
    show IsRangeIter _ _ (i+((0:Nat):Int)*k) ((n:Int)-((0:Nat):Int)) k;rw[A,B];exact VM _ rfl
end
def tK(K:Frag)(a:Addr):It:=
 ⟨λi H=>∃(xs:aQ)(x:V),aT K H a xs/\xs[i]? =some x,λi H v b=>∃T x,v=.ref T/\H T=none/\b=ai H T (.aN [.int (i:Nat),x])/\∀xs,aT K H a xs->xs[i]? =some x,λi H=>∃xs:aQ,aT K H a xs/\xs.length<=i⟩
def Tk{P:Program}{w:World}{K:Frag}{elts:en}{kk:Nat}{gP:Pos}(a e it:Addr):
  mf P w K (.Tuple elts kk gP) (tK K a) [e,it] e (λi h=>(∃old,IsEnum h e it ((i:Nat):Int) old)/\h.IsListIter it a i/\e≠it) where
 mem:=by simp
 obj:=λi h st b hb=>by
  obtain⟨⟨old,he⟩,⟨o,ho,hc,hd⟩,_⟩:=st;have e':b=e\/b=it:=by simpa using hb
  rcases e' with z|z
  ·rw[z];exact⟨_,he,λv q=>nomatch q⟩
  ·rw[z];exact⟨o,ho,λv q=>by rw[hd] at q;cases q⟩
 keep:=λi h h' st k=>let ⟨⟨old,he⟩,hi,hne⟩:=st;⟨⟨old,k e (by simp) _ he⟩,hi.at λo q=>k it (by simp) o q,hne⟩
 item:=by
  intro X hP hw hK hc i aa s U H E I hf st hg;subst hP hw hK;obtain⟨⟨old,he⟩,hit,hne⟩:=st;obtain⟨xs,x,hq,hx⟩:=hg;obtain⟨its,rv,p,hz⟩:=I.list hq;obtain⟨u,hu,ru⟩:=rv.get hx;have hel:e<s.heap.objs.size:=VD he;have hil:it<s.heap.objs.size:=by obtain⟨_,q,_⟩:=hit;exact VD q
  refine wpAny_pyNext_enum_item he hit p.isList (x:=u) (by simpa using hu) hne λh' ho hit' hT hsz hk=>?_;refine⟨_,rfl,wpAny_letOwnedTupleGo_enum (s:={s with heap:=h',toks:=s.toks+1}) ho λh'' he' sb=>?_⟩;have hT2:h''.get? s.heap.objs.size=some {cls:=.type "tuple",data:=.seq #[.int i s.toks,u]}:=(sb.2 _ (Nat.ne_of_gt hel)).trans hT;have new:ed X.prog X.w (ai H s.heap.objs.size (.aN [.int (i:Nat),x])) h'' s.heap.objs.size (.aN [.int (i:Nat),x]):=
   ⟨by show 2<=sizeLine;decide,[.int i s.toks,u],.cons ⟨_,rfl⟩ (.cons ru .nil),⟨_,hT2,rfl,_,rfl⟩⟩
  have I1:Inv X aa U (ai H s.heap.objs.size (.aN [.int (i:Nat),x])) {s with heap:=h'',toks:=s.toks+1}:=
   I.AM (ch:=[e,it]) (λb ob hb q=>(sb.2 b (λz=>hb (by simp[z]))).trans (hk b ob (λz=>hb (by simp[z])) (λz=>hb (by simp[z])) q)) hf (Vm _) new
  refine⟨.ref s.heap.objs.size,_,I1,rfl,⟨_,x,rfl,I.aK.dP (Vm _),rfl,λys hy=>by rw[I.sk hy hq];exact hx⟩,⟨⟨u,?_⟩,hit'.at λo q=>(sb.2 it (Ne.symm hne)).trans q,hne⟩,λb hb=>?_⟩
  ·have e1:((i+1:Nat):Int)=(i:Int)+1:=by lia
   rw[e1];exact he'
  ·have hb':b<s.heap.objs.size:=by
    have e':b=e\/b=it:=by simpa using hb
    rcases e' with z|z
    ·rw[z];exact hel
    ·rw[z];exact hil
   rw[bA (Wc hb')];exact(hf b hb).1
 done:=by intro X hP hw hK hc i aa s U H E I hf st hg;subst hP hw hK;obtain⟨⟨old,he⟩,hit,hne⟩:=st;obtain⟨xs,hq,hx⟩:=hg;obtain⟨its,rv,p,hz⟩:=I.list hq;obtain⟨f0,f1,f2,f3,f4,f5⟩:=hf it (by simp);have hl:=rv.length;exact wpAny_pyNext_enum_end (I.ok.hd hc) he hit p.isList (by simp;lia) λh' eb=>⟨rfl,I.lB (t':=s.toks) (λb o hb q=>eb b o hb q) f0 f1 f3 f4 f5⟩
 lU:=λA i s Q E st h=>let ⟨⟨_,he⟩,_⟩:=st;wpAny_pyIter_enum he h
def yo(K:Frag)(c:TA):TI:=λd H R=>c d H λvs b=>∃a xs,vs=[.ref a]/\aT K b a xs/\R (tK K a) b
def QJ{X:Cx}{e:Expr}{m:TA}{p l J:Pos}{u:en}{E:Nat}(y:Gl X "enumerate")(B:X.mg "enumerate"=none)(w:PA X [e] m)(D:starEach [e] X.ag=[(false,eval e X.ag)]:=by rfl):
  PI X (.Tuple u E J) (.Call (.Name "enumerate" p) [e] [] l) (yo X.K m):=by
 intro aa s n H R i h;refine Call_ (mL i y B boot_enumerate (Wv (bu (w l aa s n H _ i h) λus c ⟨vs,g,d,I,G⟩=>?_) D rfl));obtain⟨a,xs,v,C,q⟩:=G;subst v;cases I with
 |cons r rr=>
  cases rr;cases r;obtain⟨M,N,F,L⟩:=d.list C;refine call_enumerate_list F.isList λh' j z hsz A=>wpAny_pyIter_enum j ?_;have o:Inv X aa n g {c with heap:=h'}:=d.kept (t':=c.toks) A;refine⟨c.heap.objs.size+1,[c.heap.objs.size+1,c.heap.objs.size],_,_,g,rfl,o,Tk a (c.heap.objs.size+1) c.heap.objs.size,⟨⟨.none,j⟩,z,Nat.succ_ne_self _⟩,λb x=>?_,q⟩;have t:b=c.heap.objs.size+1\/b=c.heap.objs.size:=by simpa using x
  have k:c.heap.objs.size<=b:=by
   rcases t with f|f
   ·rw[f];exact Xh _ _
   ·rw[f];exact Vm _
  exact d.np k (d.aK.dP k)
def BA:bootBuiltins "zip"=some (.type "zip"):=by decide+kernel
def tL(K:Frag)(a b:Addr):It:=
 ⟨λi H=>∃(xs ys:aQ)(x y:V),aT K H a xs/\aT K H b ys/\xs[i]? =some x/\ys[i]? =some y,
  λi H v c=>∃T x y,v=.ref T/\H T=none/\c=ai H T (.aN [x,y])/\(∀xs,aT K H a xs->xs[i]? =some x)/\∀ys,aT K H b ys->ys[i]? =some y,
  λi H=>∃xs ys:aQ,aT K H a xs/\aT K H b ys/\(xs.length<=i\/ys.length<=i)⟩
def Tr{P:Program}{w:World}{K:Frag}{elts:en}{kk:Nat}{gP:Pos}{a b z TI TO i1 i2:Addr}(D:ZipApart z TI TO i1 i2 a b):
  mf P w K (.Tuple elts kk gP) (tL K a b) [z,TI,TO,i1,i2] z (λi h=>IsZip h z TI TO .none/\IsPair h TI (.ref i1) (.ref i2)/\(∃x y,IsPair h TO x y)/\h.IsListIter i1 a i/\h.IsListIter i2 b i) where
 mem:=by simp
 obj:=λi h st c hc=>by
  obtain⟨hz,hTI,⟨x,y,hTO⟩,⟨o1,e1,_,d1⟩,⟨o2,e2,_,d2⟩⟩:=st;have e':c=z\/c=TI\/c=TO\/c=i1\/c=i2:=by simpa using hc
  rcases e' with q|q|q|q|q
  ·rw[q];exact⟨_,hz,λv q=>nomatch q⟩
  ·rw[q];exact⟨_,hTI,λv q=>nomatch q⟩
  ·rw[q];exact⟨_,hTO,λv q=>nomatch q⟩
  ·rw[q];exact⟨o1,e1,λv q=>by rw[d1] at q;cases q⟩
  ·rw[q];exact⟨o2,e2,λv q=>by rw[d2] at q;cases q⟩
 keep:=λi h h' st k=>by obtain⟨hz,hTI,⟨x,y,hTO⟩,h1,h2⟩:=st;exact⟨k z (by simp) _ hz,k TI (by simp) _ hTI,⟨x,y,k TO (by simp) _ hTO⟩,h1.at λo q=>k i1 (by simp) o q,h2.at λo q=>k i2 (by simp) o q⟩
 item:=by
  intro X hP hw hK hc i aa s U H E I hf st hg;subst hP hw hK;obtain⟨hz,hTI,⟨x0,y0,hTO⟩,h1,h2⟩:=st;obtain⟨xs,ys,x,y,hqx,hqy,hx,hy⟩:=hg;obtain⟨its,rv,p,_⟩:=I.list hqx;obtain⟨its2,rv2,p2,_⟩:=I.list hqy;obtain⟨u,hu,ru⟩:=rv.get hx;obtain⟨u2,hu2,ru2⟩:=rv2.get hy;have hzl:z<s.heap.objs.size:=VD hz;refine wpAny_pyNext_zip_item D hz hTI hTO h1 h2 p.isList p2.isList (x:=u) (y:=u2) (by simpa using hu) (by simpa using hu2) λh' z' TO' h1' h2' hT hsz hk=>?_;refine⟨_,rfl,wpAny_letOwnedTupleGo_zip (s:={s with heap:=h'}) z' λh'' z'' sb=>?_⟩;have hT2:h''.get? s.heap.objs.size=some {cls:=.type "tuple",data:=.seq #[u,u2]}:=(sb.2 _ (Nat.ne_of_gt hzl)).trans hT;have new:ed X.prog X.w (ai H s.heap.objs.size (.aN [x,y])) h'' s.heap.objs.size (.aN [x,y]):=
   ⟨by show 2<=sizeLine;decide,[u,u2],.cons ru (.cons ru2 .nil),⟨_,hT2,rfl,_,rfl⟩⟩
  have I1:Inv X aa U (ai H s.heap.objs.size (.aN [x,y])) {s with heap:=h''}:=
   I.AM (t':=s.toks) (ch:=[z,TI,TO,i1,i2]) (λc o hb q=>(sb.2 c (λq'=>hb (by simp[q']))).trans (hk c o (λq'=>hb (by simp[q'])) (λq'=>hb (by simp[q'])) (λq'=>hb (by simp[q'])) (λq'=>hb (by simp[q'])) q)) hf (Vm _) new
  refine⟨.ref s.heap.objs.size,_,I1,rfl,⟨_,x,y,rfl,I.aK.dP (Vm _),rfl,λl hl=>by rw[I.sk hl hqx];exact hx,λl hl=>by rw[I.sk hl hqy];exact hy⟩,⟨z'',?_,⟨u,u2,?_⟩,?_,?_⟩,λc hcm=>?_⟩
  ·exact(sb.2 _ D.TIz).trans (hk _ _ D.TIz D.TITO D.TIi1 D.TIi2 hTI)
  ·exact(sb.2 _ D.TOz).trans TO'
  ·exact h1'.at λo q=>(sb.2 _ D.i1z).trans q
  ·exact h2'.at λo q=>(sb.2 _ D.i2z).trans q
  ·have hlt:c<s.heap.objs.size:=by
    have e':c=z\/c=TI\/c=TO\/c=i1\/c=i2:=by simpa using hcm
    rcases e' with q|q|q|q|q
    ·rw[q];exact hzl
    ·rw[q];exact VD hTI
    ·rw[q];exact VD hTO
    ·rw[q];obtain⟨_,e1,_⟩:=h1;exact VD e1
    ·rw[q];obtain⟨_,e2,_⟩:=h2;exact VD e2
   rw[bA (Wc hlt)];exact(hf c hcm).1
 done:=by
  intro X hP hw hK hc i aa s U H E I hf st hg;subst hP hw hK;obtain⟨hz,hTI,⟨x0,y0,hTO⟩,h1,h2⟩:=st;obtain⟨xs,ys,hqx,hqy,hend⟩:=hg;obtain⟨its,rv,p,_⟩:=I.list hqx;obtain⟨its2,rv2,p2,_⟩:=I.list hqy;have l1:=rv.length;have l2:=rv2.length;have he:its.toArray[i]? =none\/its2.toArray[i]? =none:=by
   rcases hend with q|q
   ·exact .inl (by simp;lia)
   ·exact .inr (by simp;lia)
  exact wpAny_pyNext_zip_end (I.ok.hd hc) D hz hTI hTO h1 h2 p.isList p2.isList he λh' hk=>⟨rfl,I.Jg (t':=s.toks) (ch:=[z,TI,TO,i1,i2]) (λc o hb q=>hk c o (λq'=>hb (by simp[q'])) (λq'=>hb (by simp[q'])) (λq'=>hb (by simp[q'])) (λq'=>hb (by simp[q'])) q) hf⟩
 lU:=λA i s Q E st h=>wpAny_pyIter_zip st.1 h
def yt(K:Frag)(d:TA):TI:=λe H R=>d e H λvs c=>∃a b xs ys,vs=[.ref a,.ref b]/\aT K c a xs/\aT K c b ys/\R (tL K a b) c
def QO{X:Cx}{e i:Expr}{u:TA}{p j W:Pos}{y:en}{P:Nat}(G:Gl X "zip")(J:X.mg "zip"=none)(E:PA X [e,i] u)
  (O:starEach [e,i] X.ag=(false,eval e X.ag)::starEach [i] X.ag:=by rfl)(L:(backTo j (starEach [i] X.ag)).any (·.1)=false:=by rfl):
  PI X (.Tuple y P W) (.Call (.Name "zip" p) [e,i] [] j) (yt X.K u):=by
 intro aa s v H R l h;refine Call_ (mL l G J BA (Wv (bu (E j aa s v H _ l h) λus d ⟨vs,k,g,V,T⟩=>?_) O L));obtain⟨a,b,xs,ys,z,M,N,q⟩:=T;subst z;cases V with
 |cons r rr=>
  cases rr with
  |cons r' rr=>
   cases rr;cases r;cases r';obtain⟨Y,ac,o,_⟩:=g.list M;obtain⟨ab,ad,t,_⟩:=g.list N;have Q:a<d.heap.objs.size:=o.lt;have S:b<d.heap.objs.size:=t.lt;refine call_zip_2 o.isList t.isList λh' n C D A B hsz I=>wpAny_pyIter_zip n ?_;have w:Inv X aa v k {d with heap:=h'}:=g.kept (t':=d.toks) I;refine⟨d.heap.objs.size+4,[d.heap.objs.size+4,d.heap.objs.size+2,d.heap.objs.size+3,d.heap.objs.size,d.heap.objs.size+1],_,_,k,rfl,w,Tr (ktu_apart d.heap.objs.size a b Q S),⟨n,C,⟨_,_,D⟩,A,B⟩,λc F=>?_,q⟩;have x:c=d.heap.objs.size+4\/c=d.heap.objs.size+2\/c=d.heap.objs.size+3\/c=d.heap.objs.size\/c=d.heap.objs.size+1:=by simpa using F
   have m:d.heap.objs.size<=c:=by
    rcases x with f|f|f|f|f
    ·rw[f];exact Xh _ _
    ·rw[f];exact Xh _ _
    ·rw[f];exact Xh _ _
    ·rw[f];exact Vm _
    ·rw[f];exact Xh _ _
   exact g.np m (g.aK.dP m)
end L2
namespace lC
open PySem PyProof.Rows
end lC
namespace TL
open PySem PySem.Builtin PySem.Builtin.Str PySem.StrLaws
end TL
namespace L2
open PySem PySem.Spec PyProof.Rows
end L2
namespace Att
open PySem PySem.W PySem.Calls PyProof.Rows
end Att
namespace L2
open PySem PySem.Spec PyProof.Rows
def fZ(s:Stmt)(j:Nat):Stmt:=match s with
 | .ClassDef _ _ _ body _ _ _ _ _ _ _=>body.getD j (.Pass ⟨0,0,0,0⟩)
 |_=>.Pass ⟨0,0,0,0⟩
def lJ(s:Stmt):Arguments:=match s with
 | .FunctionDef _ a _ _ _ _ _ _ _ _=>a
 |_=>{posonlyargs:=[],args:=[],vararg:=none,kwonlyargs:=[],kw_defaults:=[],kwarg:=none,defaults:=[]}
def jq(s:Stmt):List Stmt:=match s with
 | .FunctionDef _ _ b _ _ _ _ _ _ _=>b
 |_=>[]
def aM(s:Stmt):Scope:=match s with
 | .FunctionDef _ _ _ _ _ _ a _ _ _=>a
 |_=>{kind:=.function,names:=[],isGenerator:=false,isCoroutine:=false}
abbrev jl:jG:=λ_ _ _ _ _ _=>False
abbrev E0:XK:=λ_ _ _=>False
def sJ{X:Cx}:m_ jl X E0:=λ_ _ _ _ _ _ _ h=>h.elim
structure mX(K:Frag)(x qual:Str)(st:Stmt)(f:Addr)(fd:FuncData):Prop where
 ex:∃(oc:Value)(od:Option Addr)(kV doc pm:Value)(an:Option Addr)(aI ct:Value)(jh:Array jN),
  fd=fnOf x qual (lJ st) (jq st) (aM st) .none kV doc pm an aI ct/\K.lookup f=some ⟨oc,od,.func fd,jh⟩/\codeIn K aI qual=true
 kp:keepIn K (.ref f)=true
section
variable{P:Program}{w:World}{K:Frag}{mg:df}{ah:Heap}
def mX.ok{x e:Str}{a:Stmt}{f:Addr}{g:FuncData}{N ps:cR}{k:Nat}{sp:Sp}(i:mX K x e a f g)(l:bd N ps (aM a))(r:∀vs H Q E,sp vs H Q E->vs.length=ps.length)
  (m:∀(b:Value)(A:Around)(d:List Env)(s:Shared)(H:Hp)(vs:aQ)(Q:VK)(E:XK),db k (A.deeper (envOfC e (aM a) s.heap.objs.size f b))->sp vs H Q E->
   ∃c,iK (kU jl P w K mg ah N e (aM a) f b A d s H E).nD (jq a) c/\c {nx:=λ_ j=>Q .aO j,rt:=Q} (start N vs) H):gw P w K mg ah jl (k+1) f g ps sp:=by
 obtain⟨z,B,kV,y,D,u,b,v,C,rfl,t,n⟩:=i.ex;refine MZ t n l r λA d s H vs Q E o p=>?_;obtain⟨c,h,q⟩:=m b A d s H vs Q E o p;exact⟨c,h.nD,q⟩
def mX.mi{x j:Str}{a:Stmt}{f:Addr}{i:FuncData}{ps:cR}(k:mX K x j a f i)
  (h:∀(kV e g:Value)(b:Option Addr)(c d:Value)(us:bD),us.length=ps.length->bindArgs (fnOf x j (lJ a) (jq a) (aM a) .none kV e g b c d) ⟨us,[]⟩=pure (ps.zip us)):iG K i ps []:=by
 obtain⟨n,o,kV,e,g,b,c,d,p,rfl,m,l⟩:=k.ex;exact .all (h kV e g b c d)
def pV{x d:Str}{a:Stmt}{f:Addr}{j:Value}{m e:Option Addr}{n:Array jN}{kV h i b g:Value}(l:K.lookup f=some ⟨j,m,.func (fnOf x d (lJ a) (jq a) (aM a) .none kV h i e b g),n⟩)
  (c:codeIn K b d=true)(k:keepIn K (.ref f)=true):mX K x d a f (fnOf x d (lJ a) (jq a) (aM a) .none kV h i e b g):=⟨⟨j,m,kV,h,i,e,b,g,n,rfl,l,c⟩,k⟩
end
section
variable{X:Cx}
def pv(i:Nat){x:Str}{e:Pos}(a:X.N[i]? =some x:=by rfl)(d:pJ X.ag.scope x:=by first|exact Or.inl rfl|exact Or.inr (Or.inl rfl)|exact Or.inr (Or.inr rfl))(c:(x==("__debug__":Str))=false:=by decide)
  (b:(x==("__classdict__":Str))=false:=by decide):PE X (.Name x e) (cQ i):=QG a d c b
end
def aB(H a:Hp):Prop:=∀b o,H b=some o->a b=some o
def aB.refl(H:Hp):aB H H:=λ_ _ h=>h
def aB.trans{H d e:Hp}(a:aB H d)(b:aB d e):aB H e:=λc o h=>b c o (a c o h)
def aB.free{H a:Hp}(e:aB H a){l:Addr}(h:a l=Option.none):H l=Option.none:=by
 cases q:H l with
 |none=>rfl
 |some o=>rw[e l o q] at h;cases h
end L2
local macro_rules| `(tactic|fail $s:str)=>match s.getString.splitOn ";" with|_::a::l=> `(tactic|fail $(Lean.Syntax.mkStrLit (";".intercalate (a::l))))|_=>Lean.Macro.throwUnsupported
local macro_rules| `(tactic|fail $s:str)=>let x:=(s.getString.splitOn ";").head!;let i (x:String):=Lean.mkIdent x.toName;let b (l:List String):Lean.MacroM _:=(do let a<- `(by assumption);return (l.map λ_=>a).toArray);match x.splitOn ":" with|[g,l]=> `(tactic|(revert $(i g);fail $(Lean.Syntax.mkStrLit (l.replace " " ";"))))|_=>match x.splitOn "+" with|y::_::l=>do `(tactic|refine $(i y) $(<-b l)* ?_)|_=>match x.splitOn "!" with|y::_::l=>do `(tactic|with_reducible exact $(i y) $(<-b l)*)|_=> `(tactic|revert $(i x))
local macro_rules| `(tactic|lia)=> `(tactic|first|with_reducible assumption|fail "Nat.le_of_lt!!;Nat.lt_of_lt_of_le!!!;Nat.le_trans!!!;Nat.le_of_not_lt!!;Int.le_of_lt!!;Int.le_trans!!!;Nt.qk_z3!;Nat.lt_of_le_of_lt!!!;Nat.gt_of_not_le!!;Nat.lt_of_lt_of_eq!!!;Nt.qk_n9!!!;Nat.lt_of_succ_le!!;Nat.succ_le_of_lt!!;Nat.lt_succ_of_lt!!;Nat.lt_succ_of_le!!;Int.toNat_of_nonneg!!;Nt.qk_t1!!;Nt.qk_t3!!!;Nt.qk_c1!!;Ne.symm!!;Nt.qk_n4!!;Nt.qk_l1!!!;Nt.qk_z4!!;Nt.Va!!;Nt.qk_d!"|fail)
namespace Nt
open PySem PySem.Spec PyProof.Rows L2
structure Df(K:Frag)(mg:df)(x:Str)(st:Stmt)(ps:cR):Prop where
 ex:∃f fd,mX K x x st f fd/\mg x=some (.ref f)/\iG K fd ps []
structure Fn(P:Program)(w:World)(K:Frag)(mg:df)(ah:Heap)(k:Nat)(x:Str)(ps:cR)(sp:Sp):Prop where
 ex:∃f fd,gw P w K mg ah jl k f fd ps sp/\mg x=some (.ref f)/\keepIn K (.ref f)=true/\iG K fd ps []
section
variable{P:Program}{w:World}{K:Frag}{mg:df}{ah:Heap}
def Df.fn{x:Str}{a:Stmt}{N ps:cR}{k:Nat}{sp:Sp}(i:Df K mg x a ps)(l:bd N ps (aM a))(q:∀vs H Q E,sp vs H Q E->vs.length=ps.length)
  (o:∀(f:Addr)(c:Value)(A:Around)(d:List Env)(s:Shared)(H:Hp)(vs:aQ)(Q:VK)(E:XK),db k (A.deeper (envOfC x (aM a) s.heap.objs.size f c))->sp vs H Q E->
   ∃g,iK (kU jl P w K mg ah N x (aM a) f c A d s H E).nD (jq a) g/\g {nx:=λ_ j=>Q .aO j,rt:=Q} (start N vs) H):Fn P w K mg ah (k+1) x ps sp:=by
 obtain⟨f,n,e,m,b⟩:=i.ex;exact⟨f,n,e.ok l q (λc A d s H vs Q E p h=>o f c A d s H vs Q E p h),m,e.kp,b⟩
end
section
variable{X:Cx}{j k:Nat}{x:Str}{ps:cR}{sp:Sp}{p pos:Pos}{e:Expr}{es:en}{t:TA}
def aL(a:Fn X.prog X.w X.K X.mg X.ah j x ps sp)(n:db k X.A)(c:PA X (e::es) t)(h:Gl X x:=by rfl)(i:j<=k:=by decide)(d:(x==("__debug__":Str))=false:=by decide)
  (g:starEach (e::es) X.ag=(false,eval e X.ag)::starEach es X.ag:=by rfl)(l:(backTo pos (starEach es X.ag)).any (·.1)=false:=by rfl):
  PE X (.Call (.Name x p) (e::es) [] pos) (lX sp [] E0 t):=by
 obtain⟨f,q,a,m,o,b⟩:=a.ex;exact Qu (a.aF i) n h m o b .nil sJ c d g l
end
def Sz(i:Int):Prop:=Builtin.Int.intBits i<=67108864
def Sz.mul{i j:Int}(a:Sz i)(b:Sz j):IntMulOk i j:=IntMulOk.of_le a b ∅
section
variable{X:Cx}
def eQ:ee X (binaryOp .Mult) (rI (λi j=>IntMulOk i j) λi j=>.int (i*j)):=EM λ_ _ _ _ _ _ _ a q=>mul_int q a
structure qQ(X:Cx):Prop where
 tree:X.prog.given.tree=none
 dp:X.A.depth+Builtin.pylongFrames<recursionLimit
 gl:∃ag l,X.g6=ag::l/\ag.scope.isGenerator=false/\ag.scope.isCoroutine=false/\ag.builtins=builtinsNs/\ag.globals=mainGlobals
def oQ(R:qQ X):ee X (binaryOp .FloorDiv) (rI (λ_ j=>0<j) λi j=>.int (i/j)):=by intro aa s t H x y v u Q a m n h;obtain⟨i,j,rfl,rfl,g,q⟩:=h;obtain⟨r,rfl⟩:=m;obtain⟨t',rfl⟩:=n;obtain⟨o,l,b,c,d,e,f⟩:=R.gl;have p:(0:Int)<j:=g;have k:SeerAt (model X.prog X.w) X.A s.heap:=SeerAt.of (a.ok.mod.seer.keeps a.bk) R.tree (by rw[<-b];exact a.ok.frames) c d e f;refine floordiv_int ⋯ ?_ (.inr (PylongRoom.of a.nolimit R.dp k));rw[Int.fdiv_eq_ediv_of_nonneg i ⋯];exact⟨.int (i/j),H,a.i6 _,⟨_,rfl⟩,q⟩
def db.div{k:Nat}{A:Around}(a:db k A)(b:40<=k):A.depth+Builtin.pylongFrames<recursionLimit:=by
 have:=a.dp;show A.depth+100<recursionLimit
 lia
end
def cE(a:df)(x:Str)(v:V):Prop:=∃u,a x=some u/\bM v u
def aY{X:Cx}{x:Str}{v:V}{d:Pos}(c:cE X.mg x v)(b:Gl X x:=by rfl)(a:(x==("__debug__":Str))=false:=by decide):PE X (.Name x d) (tC v):=by obtain⟨u,m,r⟩:=c;exact Qy b m r a
abbrev Rl(a:Type):=Hp->V->a->Prop
class Mo{α:Type}(r:Rl α):Prop where
 mo:∀{H Z:Hp}{v:V}{x:α},aB H Z->r H v x->r Z v x
def bi.aF{K:Frag}{H b:Hp}{a:Addr}{xs:aQ}(e:aB H b)(h:bi K H a xs):bi K b a xs:=by
 rcases h with (h|⟨o,h⟩)|h
 ·exact .inl (.inl (e _ _ h))
 ·exact .inl (.inr ⟨o,e _ _ h⟩)
 ·exact .inr h
theorem Paired.imp{g β:Type}{c G:g->β->Prop}(f:∀a b,c a b->G a b):∀{d:List g}{e:List β},Paired c d e->Paired G d e
 |_,_,.nil=>.nil
 |_,_,.cons r t=>.cons (f _ _ r) (Paired.imp f t)
def RI:Rl Int:=λ_ v i=>v=.int i
def RB:Rl Bool:=λ_ v b=>v=.bl b
def RF(K:Frag):Rl Fr:=λH v x=>∃p,v=.ref p/\bi K H p [.int x.1,.int x.2]
def RL{a:Type}(r:Rl a):Rl (List a):=λH v xs=>∃p vs,v=.ref p/\H p=some (.aq vs)/\Paired (r H) vs xs
def RT{a:Type}(K:Frag)(r:Rl a):Rl (List a):=λH v xs=>∃p vs,v=.ref p/\bi K H p vs/\Paired (r H) vs xs
def RO{a:Type}(r:Rl a):Rl (Option a):=λH v x=>match x with
 |none=>v=.aO
 |some y=>v≠ .aO/\r H v y
instance:Mo RI:=⟨λ_ h=>h⟩
instance:Mo RB:=⟨λ_ h=>h⟩
instance {K:Frag}:Mo (RF K):=⟨λs ⟨p,e,h⟩=>⟨p,e,bi.aF s h⟩⟩
instance {b:Type} {r:Rl b} [Mo r]:Mo (RL r):=⟨λs ⟨p,vs,e,h,q⟩=>⟨p,vs,e,s _ _ h,Paired.imp (λ_ _ a=>Mo.mo s a) q⟩⟩
instance {b:Type} {K:Frag} {r:Rl b} [Mo r]:Mo (RT K r):=⟨λs ⟨p,vs,e,h,q⟩=>⟨p,vs,e,bi.aF s h,Paired.imp (λ_ _ a=>Mo.mo s a) q⟩⟩
instance {a:Type} {r:Rl a} [Mo r]:Mo (RO r):=⟨λ{H b v x} s h=>by
 cases x with
 |none=>exact h
 |some y=>exact⟨h.1,Mo.mo s h.2⟩⟩
def aB.new{H:Hp}{p:Addr}{o:HO}(h:H p=none):aB H (ai H p o):=λb u e=>by rw[bA (dI e h)];exact e
def RF.new{K:Frag}{H:Hp}{p:Addr}{x:Fr}:RF K (ai H p (.aN [.int x.1,.int x.2])) (.ref p) x:=⟨p,rfl,bi.of aS⟩
def RL.new{a:Type}{r:Rl a}[Mo r]{G:Hp}{p:Addr}{us:aQ}{xs:List a}(h:G p=none)(q:Paired (r G) us xs):RL r (ai G p (.aq us)) (.ref p) xs:=⟨p,us,rfl,aS,Paired.imp (λ_ _ b=>Mo.mo (aB.new h) b) q⟩
theorem Paired.get{d β:Type}{a:d->β->Prop}:∀{b:List d}{c:List β}{i:Nat}{y:β},Paired a b c->c[i]? =some y->∃x,b[i]? =some x/\a x y
 |_,_,_,_,.nil,e=>by simp at e
 |_,_,0,y,.cons r _,e=>by simp at e;subst e;exact⟨_,rfl,r⟩
 |_,_,i+1,y,.cons _ t,e=>by obtain⟨u,f,g⟩:=Paired.get (i:=i) (y:=y) t (by simpa using e);exact⟨u,by simpa using f,g⟩
theorem Paired.jb{a β:Type}{b:a->β->Prop}:∀{c:List a}{d:List β}{i:Nat}{x:a},Paired b c d->c[i]? =some x->∃y,d[i]? =some y/\b x y
 |_,_,_,_,.nil,e=>by simp at e
 |_,_,0,y,.cons r _,e=>by simp at e;subst e;exact⟨_,rfl,r⟩
 |_,_,i+1,y,.cons _ t,e=>by obtain⟨u,f,g⟩:=Paired.jb (i:=i) (x:=y) t (by simpa using e);exact⟨u,by simpa using f,g⟩
structure al(H G Z G':Hp):Prop where
 hs:aB H Z
 gs:aB G G'
 sub:aB G' Z
 fr:∀b,G b=none->H b≠none->G' b=none
def al.refl{H G:Hp}(s:aB G H):al H G H G:=⟨aB.refl _,aB.refl _,s,λ_ h _=>h⟩
def al.trans{H G f d g e:Hp}(a:al H G f d)(b:al f d g e):al H G g e:=
 ⟨a.hs.trans b.hs,a.gs.trans b.gs,b.sub,λc i h=>b.fr c (a.fr c i h) λj=>h (a.hs.free j)⟩
def al.ib{H G b c:Hp}(a:al H G b c):aB G b:=a.gs.trans a.sub
def al.new{H G:Hp}{p:Addr}{o:HO}(s:aB G H)(h:H p=none):al H G (ai H p o) (ai G p o):=by
 refine⟨aB.new h,aB.new (s.free h),λb u e=>?_,λb c d=>?_⟩
 ·by_cases a:b=p
  ·subst a;rw[aS] at e ⊢;exact e
  ·rw[bA a] at e ⊢;exact s b u e
 ·have a:b≠p:=λf=>by subst f;exact d h
  rw[bA a];exact c
def al.kH{H G:Hp}{p:Addr}{o:HO}(s:aB G H)(h:H p=none):al H G (ai H p o) G:=
 ⟨aB.new h,aB.refl _,λb u e=>by rw[bA (dI e (s.free h))];exact s b u e,λb a _=>a⟩
def al.eV{H G c a:Hp}(e:al H G c a){p:Addr}{o:HO}(h:H p=none)(d:a p=none):al H G (ai c p o) a:=
 ⟨λb u q=>by rw[bA (dI q h)];exact e.hs b u q,e.gs,λb u q=>by rw[bA (dI q d)];exact e.sub b u q,e.fr⟩
def al.gr{H G d c:Hp}(e:al H G d c){p:Addr}{o:HO}(h:H p=none)(i:d p=some o)(g:c p=none):al H G d (ai c p o):=
 ⟨e.hs,e.gs.trans (aB.new g),λb u q=>by
  by_cases a:b=p
  ·subst a;rw[aS] at q;rw[<-q];exact i
  ·rw[bA a] at q;exact e.sub b u q,λb a f=>by
  have:b≠p:=λj=>by subst j;exact f h
  rw[bA this];exact e.fr b a f⟩
def al.up{c:Type}{r:Rl c}[Mo r]{H G d b:Hp}(a:al H G d b){v:V}{x:c}(h:r G v x):r b v x:=Mo.mo a.gs h
inductive bW{α γ:Type}(r1:Rl α)(rr:Rl γ)(pre:α->Prop)(f:α->γ)(vs:List V)(H:Hp)(Q:VK)(E:XK):Prop
 |mk (G v1 x) (_:vs=[v1]) (_:aB G H) (_:r1 G v1 x) (_:pre x) (_:∀Z G' v,al H G Z G'->rr G' v (f x)->Q v Z):bW r1 rr pre f vs H Q E
inductive b6{α β γ:Type}(r1:Rl α)(r2:Rl β)(rr:Rl γ)(pre:α->β->Prop)(f:α->β->γ)(vs:List V)(H:Hp)(Q:VK)(E:XK):Prop
 |mk (G v1 v2 x y) (_:vs=[v1,v2]) (_:aB G H) (_:r1 G v1 x) (_:r2 G v2 y) (_:pre x y) (_:∀Z G' v,al H G Z G'->rr G' v (f x y)->Q v Z):b6 r1 r2 rr pre f vs H Q E
inductive eG{α β δ γ:Type}(r1:Rl α)(r2:Rl β)(r3:Rl δ)(rr:Rl γ)(pre:α->β->δ->Prop)(f:α->β->δ->γ)(vs:List V)(H:Hp)(Q:VK)(E:XK):Prop
 |mk (G v1 v2 v3 x y z) (_:vs=[v1,v2,v3]) (_:aB G H) (_:r1 G v1 x) (_:r2 G v2 y) (_:r3 G v3 z) (_:pre x y z) (_:∀Z G' v,al H G Z G'->rr G' v (f x y z)->Q v Z):eG r1 r2 r3 rr pre f vs H Q E
def bW.aC{b c:Type}{e:Rl b}{rr:Rl c}{d:b->Prop}{f:b->c}{a:Str}:∀vs H Q E,bW e rr d f vs H Q E->vs.length=[a].length:=by rintro vs H Q E ⟨_,_,_,rfl,_⟩;rfl
def b6.aC{c β d:Type}{g:Rl c}{h:Rl β}{rr:Rl d}{e:c->β->Prop}{f:c->β->d}{a b:Str}:∀vs H Q E,b6 g h rr e f vs H Q E->vs.length=[a,b].length:=by rintro vs H Q E ⟨_,_,_,_,_,rfl,_⟩;rfl
def eG.aC{d β e g:Type}{i:Rl d}{j:Rl β}{k:Rl e}{rr:Rl g}{h:d->β->e->Prop}{f:d->β->e->g}{a b c:Str}:∀vs H Q E,eG i j k rr h f vs H Q E->vs.length=[a,b,c].length:=by rintro vs H Q E ⟨_,_,_,_,_,_,_,rfl,_⟩;rfl
section
variable{X:Cx}
def iC(K:Frag):R2:=λx y H Q=>FA K x y H Q\/FC K x y H Q
def NK{K:Frag}(h:X.K=K:=by rfl):m5 X (iC K):=by subst h;exact NL.or NM
def gY{K:Frag}{c l:Expr}{a:TE}(b:PE X l a)(h:X.K=K:=by rfl):PI X c l (yp K a):=by subst h;exact QK b
def ay(K:Frag){e:Expr}{f:Str}{d:Pos}{a:TE}(c:PE X e a)(b:attributeBase e f X.ag (eval e X.ag)=eval e X.ag:=by rfl)(h:X.K=K:=by rfl):PE X (.Attribute e f d) (wL K a f):=by subst h;exact Qx c b
def nE{K:Frag}(h:X.K=K:=by rfl):ee X (compareOp .In) (sS K false):=by subst h;exact Qk
def qj(K:Frag):aQ->Hp->VK->Prop:=λxs H Q=>∃p ys,xs=[.ref p]/\(aT K H p ys\/bi K H p ys)/\Q (.int ys.length) H
def Kr{K:Frag}(h:X.K=K:=by rfl):l9 X (.builtin "len") (qj K):=by subst h;exact Ks
def Fv:aQ->Hp->VK->Prop:=λxs H Q=>∃i,xs=[.int i]/\Q (.int (if i<0 then-i else i)) H
def BJ:l9 X (.builtin "abs") Fv:=Ko
def FD(K:Frag):aQ->Hp->VK->Prop:=λxs H Q=>∃p ys,xs=[.ref p]/\(aT K H p ys\/bi K H p ys)/\∀l,H l=none->Q (.ref l) (ai H l (.aq ys))
def BK{K:Frag}(h:X.K=K:=by rfl):l9 X (.type "list") (FD K):=by subst h;exact Kt
def lp{K:Frag}{a:en}{k:Nat}{b:ni}{n:Nat}{g:Pos}(d:X.ki=true)(h:qX X a b)
  (e:(assignEach a X.ag).length=n:=by rfl)(f:(assignEach a X.ag).findIdx? (·.1)=none:=by rfl)(c:X.K=K:=by rfl):PG X (.Tuple a k g) (pW K n b):=by
 subst c;exact QI d h e f
def sN{K:Frag}{e:Expr}{a:TA}{p j k:Pos}{b:en}{i:Nat}(f:Gl X "enumerate")(g:X.mg "enumerate"=none)(d:PA X [e] a)(h:starEach [e] X.ag=[(false,eval e X.ag)]:=by rfl)(c:X.K=K:=by rfl):
  PI X (.Tuple b i k) (.Call (.Name "enumerate" p) [e] [] j) (yo K a):=by
 subst c;exact QJ f g d h
def E1{K:Frag}{e a:Expr}{c:TA}{p b m:Pos}{d:en}{l:Nat}(h:Gl X "zip")(i:X.mg "zip"=none)(g:PA X [e,a] c)
  (k:starEach [e,a] X.ag=(false,eval e X.ag)::starEach [a] X.ag:=by rfl)(j:(backTo b (starEach [a] X.ag)).any (·.1)=false:=by rfl)(f:X.K=K:=by rfl):
  PI X (.Tuple d l m) (.Call (.Name "zip" p) [e,a] [] b) (yt K c):=by
 subst f;exact QO h i g k j
def qx{K:Frag}(h:X.K=K:=by rfl):xq X (qk K):=by subst h;exact SG
def DT{K:Frag}(h:X.K=K:=by rfl):tP X "list.index" (zI K):=by subst h;exact OI
def EO{K:Frag}(h:X.K=K:=by rfl):ee X (binaryOp .Add) (zH K):=by subst h;exact Qi
def sK{K:Frag}{o e:Expr}{a:en}{g:TE}{f:TA}{name:Str}{d b:Pos}{T c:String}{r:V->aQ->Hp->VK->Prop}(t:PlainAttrs T)(u:Slot T name c)(s:typeOf (.builtin c)=pure (.type "method_descriptor"))(m:tP X c r)(n:PE X o g)(i:PA X (e::a) f)
  (j:attributeBase o name X.ag (eval o X.ag)=eval o X.ag:=by rfl)
  (k:((backTo b (starEach (e::a) X.ag)).all (λx=> !x.1)&&(backToKw b (keywordEach [] X.ag)).all (λx=>x.1.isSome)
   &&decide ((e::a).length+([]:List Keyword).length+(if ([]:List Keyword).isEmpty then 0 else 1)<30))=true:=by rfl)
  (l:(d.endLine==b.line)=true:=by rfl)(q:starEach (e::a) X.ag=(false,eval e X.ag)::starEach a X.ag:=by rfl)(p:(backTo b (starEach a X.ag)).any (·.1)=false:=by rfl)(h:X.K=K:=by rfl):
  PE X (.Call (.Attribute o name d) (e::a) [] b) (wK K T r g f):=by
 subst h;exact Qt t u s m n i j k l q p
def FE(K:Frag):aQ->Hp->VK->Prop:=λxs H Q=>∃(p:Addr)(a:ao),xs=[.ref p]/\aT K H p (a.map V.int)/\Q (.int a.sum) H
def BL{K:Frag}(h:X.K=K:=by rfl)(g:X.ki=true:=by rfl):l9 X (.builtin "sum") (FE K):=by
 subst h;intro aa s t H xs us Q b r h;obtain⟨p,a,rfl,j,q⟩:=h;obtain⟨u,rfl,m⟩:=qK r;cases m;obtain⟨l,n,pl,o⟩:=b.list j;have c:=Do n;obtain⟨ys,d⟩:=c.allInts.items;have k:s.heap.IsList p (intItems ys):=d▸pl.isList;refine sum_intListG (b.ok.hd g) k λh' tk t' i=>?_;have e:a=ys.toList.map (·.1):=by rw[<-nums_intItems, <-d];exact(show numsOf l.toArray.toList=a from c.numsOf).symm
 have f:preSum (numAt ys) ys.size=a.sum:=by rw[preSum_eq,VV (by simp),e]
 rw[f];exact⟨.int a.sum,H,b.kept (t':=tk) i,⟨_,rfl⟩,q⟩
def Bx:bootBuiltins "abs"=some (.builtin "abs"):=by decide+kernel
def JW:bootBuiltins "len"=some (.builtin "len"):=by decide+kernel
def By:bootBuiltins "list"=some (.type "list"):=by decide+kernel
def Bz:bootBuiltins "sum"=some (.builtin "sum"):=by decide+kernel
end
def dh{a b:V}:[a,b].length<=sizeLine:=by show 2<=sizeLine;decide
section
variable{K:Frag}{U:L2.St}{H:Hp}{Q:VK}{D:iI}{E:XK}
abbrev MM(D:iI)(u:TS):iI:={D with nx:=u D}
def Uq{r:V->V->Hp->VK->Prop}{x y:V}(h:r x y H Q):r x y H Q:=h
def Up{c a u:Prop}[Decidable c](h:if c then a else u):if c then a else u:=h
def Ur{a:iI->L2.St->Hp->Prop}(h:a D U H):a D U H:=h
def Us{b:Type}{a:L2.St->Hp->b->Prop}{R:b}(h:a U H R):a U H R:=h
def U7{v:V}(k:Q v H):cQ 0 (some v::U) H Q:=k
def U8{i:Nat}{a:b9}(k:cQ i U H Q):cQ (i+1) (a::U) H Q:=k
def C6{i:Nat}{v:V}(k:Q v H)(h:U[i]? =some (some v):=by with_unfolding_all rfl):cQ i U H Q:=by unfold cQ;rw[h];exact k
def UH{a:b9}{v:V}{R:L2.St->Hp->Prop}(h:R (some v::U) H):dA 0 v (a::U) H R:=h
def UI{i:Nat}{a:b9}{v:V}{R:L2.St->Hp->Prop}(h:dA i v U H λb=>R (a::b)):dA (i+1) v (a::U) H R:=h
def Ub{v:V}(k:Q v H):tC v U H Q:=k
def UO{r:R2}{a b:TE}(h:a U H λx c=>b U c λy d=>r x y d Q):gu r a b U H Q:=h
def U6{r:V->Hp->VK->Prop}{a:TE}(h:a U H λx b=>r x b Q):IW r a U H Q:=h
def Uu{a:Int->Int->V}{i j:Int}(k:Q (a i j) H):lu a (.int i) (.int j) H Q:=⟨i,j,rfl,rfl,k⟩
def Uv{C:Int->Int->Prop}{a:Int->Int->V}{i j:Int}(c:C i j)(k:Q (a i j) H):rI C a (.int i) (.int j) H Q:=⟨i,j,rfl,rfl,c,k⟩
def U5{a:Int->V}{i:Int}(k:Q (a i) H):rU a (.int i) H Q:=⟨i,rfl,k⟩
def UW{a:TE}(h:a U H D.rt):qH a D U H:=h
def UX(h:D.rt .aO H):IT D U H:=h
def UK(h:D.nx U H):qG D U H:=h
def Uf(h:D.ct U H):II D U H:=h
def UY{a u:TS}(h:a (MM D u) U H):IU a u D U H:=h
def Ug{a:TE}(h:a U H λ_ b=>D.nx U b):qF a D U H:=h
def T9{b:TE}{a:TG}(h:b U H λx c=>a x U c D.nx):qD b a D U H:=h
def uT{i:Nat}{v:V}{R:L2.St->Hp->Prop}(h:R (U.set i (some v)) H):dA i v U H R:=h
def Uy{c:TT}{d u:TS}(h:c U H λb a=>if b=true then d D U a else u D U a):tz c d u D U H:=h
def jV{a u:Prop}(h:a):if true=true then a else u:=h
def iP{a u:Prop}(h:u):if false=true then a else u:=h
def Uz{a u:Prop}(h:u):if (!true)=true then a else u:=h
def UA{a u:Prop}(h:a):if (!false)=true then a else u:=h
def NF{c a u:Prop}[Decidable c](b:c)(h:a):if c then a else u:=by rw[Vh b];exact h
def NE{c b u:Prop}[Decidable c](a:¬c)(h:u):if c then b else u:=by rw[Vg a];exact h
def bv{c:Prop}[Decidable c]{a u:Prop}(b:c)(h:a):if decide c=true then a else u:=by rw[Vh (Vx b)];exact h
def bf{c:Prop}[Decidable c]{b u:Prop}(a:¬c)(h:u):if decide c=true then b else u:=by rw[Vg (λd=>a (Wy d))];exact h
def Ux{c:TT}{d e:TE}(h:c U H λb a=>if b=true then d U a Q else e U a Q):IL c d e U H Q:=h
def U3{a:TE}{R:Bool->Hp->Prop}(h:a U H λx b=>∃k,x=.bl k/\R k b):ph a U H R:=h
def U2{a:TE}{R:Bool->Hp->Prop}(h:a U H λx b=>∃k,x=.bl k/\R k b):tB a U H R:=h
def T'{b:Bool}{R:Bool->Prop}(h:R b):∃k,V.bl b=.bl k/\R k:=⟨b,rfl,h⟩
def T7{b u:TT}{R:Bool->Hp->Prop}(h:b U H λc a=>if c=true then u U a R else R false a):AH b u U H R:=h
def UP{b u:TT}{R:Bool->Hp->Prop}(h:b U H λc a=>if c=true then R true a else u U a R):IQ b u U H R:=h
def UN{a:TT}{R:Bool->Hp->Prop}(h:a U H λc b=>R (!c) b):IP a U H R:=h
def T8{b d:TE}(h:b U H λx a=>∃c,x=.bl c/\if c=true then d U a Q else Q (.bl false) a):IH b d U H Q:=h
def UQ{b d:TE}(h:b U H λx a=>∃c,x=.bl c/\if c=true then Q (.bl true) a else d U a Q):IR b d U H Q:=h
def Ui{i j:Int}(k:Q (.bl (decide (i=j))) H):Fx (.int i) (.int j) H Q:=⟨rfl,by
 have e:decide (V.int i=V.int j)=decide (i=j):=by
  by_cases h:i=j
  ·subst h;simp
  ·simp[h]
 rw[e];exact k⟩
def UJ{i j:Int}(k:Q (.bl (!decide (i=j))) H):mQ (.int i) (.int j) H Q:=⟨rfl,by
 have e:decide (V.int i=V.int j)=decide (i=j):=by
  by_cases h:i=j
  ·subst h;simp
  ·simp[h]
 rw[e];exact k⟩
def lI{p:Prop}[Decidable p](h:p):¬(!decide p)=true:=by rw[Vx h];exact VG
def kW{p:Prop}[Decidable p](h:¬p):(!decide p)=true:=by rw[VF h];rfl
def rH{p:Prop}[Decidable p](h:¬p):¬decide p=true:=by rw[VF h];exact VG
def UB{R:Prop}(k:R):V.aO=V.aO/\R:=⟨rfl,k⟩
def UL{R:aQ->Hp->Prop}(h:R [] H):eU U H R:=h
def Ue{R:aQ->Hp->Prop}{a:TE}{b:TA}(h:a U H λx c=>b U c λxs d=>R (x::xs) d):dD a b U H R:=h
def U4{b:TA}(h:b U H λxs a=>xs.length<=sizeLine/\∀p,a p=none->Q (.ref p) (ai a p (.aN xs))):wM b U H Q:=h
def UD{b:TA}(h:b U H λxs a=>xs.length<=sizeLine/\∀p,a p=none->Q (.ref p) (ai a p (.aq xs))):AK b U H Q:=h
def Ud{r:aQ->Hp->VK->Prop}{a:TA}(h:a U H λvs b=>r vs b Q):qE r a U H Q:=h
def Uc{sp:Sp}{b:TA}(h:b U H λvs a=>sp vs a Q E):lX sp [] E b U H Q:=by
 show b U H λvs a=>sp (vs++[]) a Q E;have e:(λ(vs:aQ)(a:Hp)=>sp (vs++[]) a Q E)=λvs a=>sp vs a Q E:=by funext vs a;rw[Wo]
 rw[e];exact h
def dG{a h:Type}{g:Rl a}{rr:Rl h}{e:a->Prop}{f:a->h}{b:V}{x:a}(G:Hp)(s:aB G H)(i:g G b x)(j:e x)(k:∀d c v,al H G d c->rr c v (f x)->Q v d):bW g rr e f [b] H Q E:=⟨G,b,x,rfl,s,i,j,k⟩
def bT{a β j:Type}{h:Rl a}{i:Rl β}{rr:Rl j}{g:a->β->Prop}{f:a->β->j}{b c:V}{x:a}{y:β}(G:Hp)(s:aB G H)(l:h G b x)(m:i G c y)(n:g x y)(k:∀e d v,al H G e d->rr d v (f x y)->Q v e):
  b6 h i rr g f [b,c] H Q E:=⟨G,b,c,x,y,rfl,s,l,m,n,k⟩
def gU{b β c o:Type}{l:Rl b}{m:Rl β}{n:Rl c}{rr:Rl o}{j:b->β->c->Prop}{f:b->β->c->o}{d e g:V}{x:b}{y:β}{a:c}(G:Hp)(s:aB G H)(p:l G d x)(q:m G e y)(r:n G g a)(t:j x y a)
  (k:∀i h v,al H G i h->rr h v (f x y a)->Q v i):eG l m n rr j f [d,e,g] H Q E:=⟨G,d,e,g,x,y,a,rfl,s,p,q,r,t,k⟩
def Ul{G:Hp}{v:V}{x:Fr}(h:RF K G v x)(s:aB G H)(k:Q (.int x.1) H):iC K v (.int 0) H Q:=by obtain⟨p,rfl,h⟩:=h;exact .inr ⟨p,_,0,_,rfl,rfl,bi.aF s h,rfl,k⟩
def Um{G:Hp}{v:V}{x:Fr}(h:RF K G v x)(s:aB G H)(k:Q (.int x.2) H):iC K v (.int 1) H Q:=by obtain⟨p,rfl,h⟩:=h;exact .inr ⟨p,_,1,_,rfl,rfl,bi.aF s h,rfl,k⟩
def bE{a:Type}{r:Rl a}{G:Hp}{v:V}{xs:List a}{i:Int}{x:a}(j:Nat)(h:RL r G v xs)(s:aB G H)(b:i=(j:Int))(d:xs[j]? =some x)(k:∀w,r G w x->Q w H):iC K v (.int i) H Q:=by obtain⟨p,vs,rfl,h,q⟩:=h;obtain⟨w,c,e⟩:=Paired.get q d;exact .inl ⟨p,vs,i,w,rfl,rfl,aT.of (s _ _ h),by rw[b];exact ui c,k w e⟩
def CQ{a:Type}{r:Rl a}{G:Hp}{v:V}{xs:List a}{i:Int}{x:a}(j:Nat)(h:RT K r G v xs)(s:aB G H)(b:i=(j:Int))(d:xs[j]? =some x)(k:∀w,r G w x->Q w H):iC K v (.int i) H Q:=by obtain⟨p,vs,rfl,h,q⟩:=h;obtain⟨w,c,e⟩:=Paired.get q d;exact .inr ⟨p,vs,i,w,rfl,rfl,bi.aF s h,by rw[b];exact ui c,k w e⟩
def eZ{a:Type}{r:Rl a}{G:Hp}{v:V}{xs:List a}(h:RL r G v xs)(s:aB G H)(k:Q (.int xs.length) H):qj K [v] H Q:=by obtain⟨p,vs,rfl,h,q⟩:=h;exact⟨p,vs,rfl,.inl (aT.of (s _ _ h)),by rw[q.length];exact k⟩
theorem nF:∀{G:Hp}{vs:aQ}{a:ao},Paired (RI G) vs a->vs=a.map V.int
 |_,_,_,.nil=>rfl
 |_,_,_,.cons h t=>by rw[Vv, <-nF t,show _=_ from h]
def C5{G:Hp}{v:V}{a:ao}(h:RL RI G v a)(s:aB G H)(k:Q (.int a.sum) H):FE K [v] H Q:=by obtain⟨p,vs,rfl,h,q⟩:=h;rw[nF q] at h;exact⟨p,a,rfl,aT.of (s _ _ h),k⟩
def U1{r:V->Option Int->Option Int->Hp->VK->Prop}{a:TE}{c b:TO}(h:a U H λx d=>c U d λl e=>b U e λu f=>r x l u f Q):IV r a c b U H Q:=h
def UM{R:Option Int->Hp->Prop}(h:R none H):IN U H R:=h
def UR{a:TE}{R:Option Int->Hp->Prop}(h:a U H λx b=>∃i,x=.int i/\R (some i) b):IS a U H R:=h
def US{i:Int}{R:Int->Prop}(h:R i):∃j,V.int i=.int j/\R j:=⟨i,rfl,h⟩
theorem Paired.drop{d β:Type}{a:d->β->Prop}:∀{b:List d}{c:List β}(n:Nat),Paired a b c->Paired a (b.drop n) (c.drop n)
 |_,_,0,h=>h
 |_,_,_+1,.nil=>.nil
 |_,_,n+1,.cons _ t=>Paired.drop n t
theorem Paired.take{d β:Type}{a:d->β->Prop}:∀{b:List d}{c:List β}(n:Nat),Paired a b c->Paired a (b.take n) (c.take n)
 |_,_,0,_=>.nil
 |_,_,_+1,.nil=>.nil
 |_,_,n+1,.cons h t=>.cons h (Paired.take n t)
theorem Paired.set{d β:Type}{c:d->β->Prop}{a:d}{b:β}(h:c a b):∀{e:List d}{f:List β}(n:Nat),Paired c e f->Paired c (e.set n a) (f.set n b)
 |_,_,_,.nil=>.nil
 |_,_,0,.cons _ t=>.cons h t
 |_,_,n+1,.cons q t=>.cons q (Paired.set h n t)
def yf{j:Type}{r:Rl j}[Mo r]{G:Hp}{v:V}{xs:List j}{a b:Nat}(h:RL r G v xs)(s:aB G H)(m:a<=b)(k:∀f d w,al H G f d->RL r d w ((xs.drop a).take (b-a))->Q w f):qk K v (some (a:Int)) (some (b:Int)) H Q:=by
 obtain⟨p,vs,rfl,h,q⟩:=h;refine⟨p,vs,rfl,aT.of (s _ _ h),λl g=>k _ _ _ (al.new s g) ?_⟩;have n:=VP q;have e:kl vs (some (a:Int)) (some (b:Int))=(vs.drop a).take (b-a):=by
  unfold kl;rw[HT.qm,HT.qm];rcases Nat.le_total vs.length a with i|i
  ·rw[List.drop_of_length_le ⋯,List.drop_of_length_le ⋯];simp
  ·rw[Xp i];rcases Nat.le_total vs.length b with c|c
   ·rw[Nat.min_eq_right c,VV (by rw[V9];lia),VV (by rw[V9];lia)]
   ·rw[Xp c]
 rw[e];exact RL.new (s.free g) (Paired.take _ (Paired.drop _ q))
def M_{f:Type}{r:Rl f}[Mo r]{G:Hp}{v:V}{xs:List f}{a:Nat}(h:RL r G v xs)(s:aB G H)(g:a<=xs.length)(k:∀c b w,al H G c b->RL r b w (xs.drop a)->Q w c):qk K v (some (a:Int)) none H Q:=by
 obtain⟨p,vs,rfl,h,q⟩:=h;refine⟨p,vs,rfl,aT.of (s _ _ h),λl d=>k _ _ _ (al.new s d) ?_⟩;have i:=VP q;have e:kl vs (some (a:Int)) none=vs.drop a:=by unfold kl;rw[HT.qm,HT.FU,Xp ⋯,VV (by rw[V9];lia)]
 rw[e];exact RL.new (s.free d) (Paired.drop _ q)
def CO{i:Int}(k:Q (.int i.natAbs) H):Fv [V.int i] H Q:=by
 refine⟨i,rfl,?_⟩;have e:(if i<0 then-i else i)=(i.natAbs:Int):=by split<;>omega
 rw[e];exact k
def mV(b:It)(h:TG)(j:TS)(D:iI)(U:L2.St)(f:Hp):Prop:=∃c:Nat->Nat->L2.St->Hp->Prop,(∃m,c 0 m U f)/\∀i m U H,c i m U H->
 (b.kI i H/\D.nx U H)\/(b.go i H/\∃N:L2.St->Hp->Prop,(∀e a,N e a->∃d,d<m/\c (i+1) d e a)/\∀x a,b.n_ i H x a->h x U a λk g=>j {D with nx:=N,ct:=N,bk:=D.nx} k g)
def Uk{c:TI}{a:TG}{b:TS}(h:c U H λe d=>mV e a b D U d):AJ c a b D U H:=h
def T_{i:Nat}{a:TE}{b:rc}{x:V}(h:a U H λy c=>b x y c λf d=>D.nx (U.set i (some f)) d)(e:U[i]? =some (some x):=by with_unfolding_all rfl):AI i a b D U H:=⟨x,e,h⟩
def yg{f:Int->Int->Int}{i j:Int}(k:Q (.int (f i j)) H):yw f (.int i) (.int j) H Q:=⟨i,j,rfl,rfl,k⟩
def oF{h:It}{l:TG}{o:TS}{n:Nat}{G:Hp}(d:Nat->L2.St->Hp->Hp->Prop)(s:d 0 U H G)(u:∀j U a b,j<n->d j U a b->h.go j a)(v:∀U a b,d n U a b->h.kI n a)
  (w:∀j x U a b c,j<n->d j U a b->h.n_ j a x c->l x U c λz r=>o {D with nx:=λf c=>∃g,d (j+1) f c g,ct:=λf c=>∃g,d (j+1) f c g,bk:=D.nx} z r)
  (t:∀U a b,d n U a b->D.nx U a):mV h l o D U H:=by
 refine⟨λi m U H=>m=n-i/\i<=n/\∃b,d i U H b,⟨n,by simp,We _,G,s⟩,?_⟩;rintro i m U a ⟨rfl,A,b,p⟩;by_cases k:i<n
 ·exact .inr ⟨u i U a b k p,λf c=>∃g,d (i+1) f c g,λf c q=>⟨n-(i+1),⋯,rfl,k,q⟩,λx c y=>w i x U a b c k p y⟩
 ·have e:i=n:=by lia
  subst e;exact .inl ⟨v U a b p,t U a b p⟩
def mz{z:Type}{r:Rl z}[Mo r]{G:Hp}{v:V}{xs:List z}{i:Nat}{t:TS}(d:Nat->L2.St->Hp->Hp->Prop)(h:RL r G v xs)(s:aB G H)(A:d 0 U H G)(g:∀j U c b,d j U c b->aB G b/\aB b c)
  (E:∀j x w U c b,xs[j]? =some x->r b w x->d j U c b->dA i w U c (t {D with nx:=λl e=>∃f,d (j+1) l e f,ct:=λl e=>∃f,d (j+1) l e f,bk:=D.nx}))
  (B:∀U c b,d xs.length U c b->D.nx U c):∃a,v=.ref a/\(∃xs,aT K H a xs)/\mV (oi K a) (dA i) t D U H:=by
 obtain⟨a,us,rfl,o,q⟩:=h;have C:us.length=xs.length:=VP q;have k:∀{j U c b},d j U c b->aT K c a us:=λp=>aT.of ((g _ _ _ _ p).2 _ _ ((g _ _ _ _ p).1 _ _ o));refine⟨a,rfl,⟨us,aT.of (s _ _ o)⟩,oF (n:=xs.length) d A ?_ ?_ ?_ B⟩
 ·intro j U c b m p;exact⟨us,us[j],k p,by simp[C,m]⟩
 ·intro U c b p;exact⟨us,k p,by omega⟩
 ·rintro j u U c b e m p ⟨rfl,y⟩;have F:=y us (k p);obtain⟨x,I,J⟩:=Paired.jb q F;exact E j x u U _ b I (Mo.mo (g _ _ _ _ p).1 J) p
def r9{C:Type}{r:Rl C}[Mo r]{G:Hp}{v:V}{xs:List C}{a b:Nat}{B:TS}(f:Nat->L2.St->Hp->Hp->Prop)(h:RL r G v xs)(s:aB G H)(F:f 0 U H G)(k:∀j U c d,f j U c d->aB G d/\aB d c)
  (M:∀j x w U c d g i,xs[j]? =some x->r i w x->f j U c d->al c d g i->dA a (.int (j:Nat)) U g λQ E=>dA b w Q E (B {D with nx:=λq g=>∃i,f (j+1) q g i,ct:=λq g=>∃i,f (j+1) q g i,bk:=D.nx}))
  (J:∀U c d,f xs.length U c d->D.nx U c):∃l xs,[v]=[V.ref l]/\aT K H l xs/\mV (tK K l) (pW K 2 (my (dA a) (my (dA b) rZ))) B D U H:=by
 obtain⟨p,us,rfl,z,A⟩:=h;have L:us.length=xs.length:=VP A;have m:∀{j U c d},f j U c d->aT K c p us:=λp=>aT.of ((k _ _ _ _ p).2 _ _ ((k _ _ _ _ p).1 _ _ z));refine⟨p,us,rfl,aT.of (s _ _ z),oF (n:=xs.length) f F ?_ ?_ ?_ J⟩
 ·intro j U c d t p;exact⟨us,us[j],m p,by simp[L,t]⟩
 ·intro U c d p;exact⟨us,m p,⋯⟩
 ·rintro j u U c d g t p ⟨T,w,rfl,I,rfl,y⟩;have N:=y us (m p);obtain⟨x,O,P⟩:=Paired.jb A N;have e:=al.new (o:=.aN [.int (j:Nat),w]) (k _ _ _ _ p).2 I;exact⟨T,_,rfl,bi.of aS,rfl,_,_,rfl,_,_,rfl,rfl,M j x w U c d _ _ O (Mo.mo ((k _ _ _ _ p).1.trans e.gs) P) p e⟩
def mB{h:Int}{n i:Nat}{k:TS}{G:Hp}(b:Nat->L2.St->Hp->Hp->Prop)(l:b 0 U H G)
  (o:∀j U a c,j<n->b j U a c->dA i (.int (h+j)) U a (k {D with nx:=λg d=>∃e,b (j+1) g d e,ct:=λg d=>∃e,b (j+1) g d e,bk:=D.nx}))
  (m:∀U a c,b n U a c->D.nx U a):mV (mZ h n) (dA i) k D U H:=by
 refine oF (n:=n) b l (λ_ _ _ _ f _=>f) (λ_ _ _ _=>Vm _) ?_ m;rintro j x U a c d f p ⟨rfl,rfl⟩;exact o j U _ c f p
def Nd{k c:Int}{n i:Nat}{l:TS}{G:Hp}(b:Nat->L2.St->Hp->Hp->Prop)(m:b 0 U H G)
  (q:∀j U a d,j<n->b j U a d->dA i (.int (k+(j:Nat)*c)) U a (l {D with nx:=λh e=>∃f,b (j+1) h e f,ct:=λh e=>∃f,b (j+1) h e f,bk:=D.nx}))
  (o:∀U a d,b n U a d->D.nx U a):mV (tJ k c n) (dA i) l D U H:=by
 refine oF (n:=n) b m (λ_ _ _ _ g _=>g) (λ_ _ _ _=>Vm _) ?_ o;rintro j x U a d e g p ⟨rfl,rfl⟩;exact q j U _ d g p
def Uh{c:TA}{R:It->Hp->Prop}(h:c U H λvs b=>∃a xs,vs=[.ref a]/\aT K b a xs/\R (tK K a) b):yo K c U H R:=h
def U9{d:TA}{R:It->Hp->Prop}(h:d U H λvs c=>∃a b xs ys,vs=[.ref a,.ref b]/\aT K c a xs/\aT K c b ys/\R (tL K a b) c):yt K d U H R:=h
def UV{a:TA}{R:It->Hp->Prop}(h:a U H λvs b=>∃(i j c:Int)(n:Nat),vs=[.int i,.int j,.int c]/\q_ i j c n/\R (tJ i c n) b):Dk a U H R:=h
def Uw{c:TE}{R:It->Hp->Prop}(h:c U H λx b=>∃a,x=.ref a/\(∃xs,aT K b a xs)/\R (oi K a) b):yp K c U H R:=h
def UT{a:TA}{R:It->Hp->Prop}(h:a U H λvs b=>∃j:Int,vs=[.int j]/\ -(2^62)<=j/\j<2^62/\R (mZ 0 j.toNat) b):yq a U H R:=h
def UU{a:TA}{R:It->Hp->Prop}(h:a U H λvs b=>∃i j:Int,vs=[.int i,.int j]/\(-(2^62)<=i/\i<2^62/\ -(2^62)<=j/\j<2^62)/\R (mZ i (j-i).toNat) b):Dj a U H R:=h
def Ua{T:String}{r:V->aQ->Hp->VK->Prop}{c:TE}{b:TA}(h:c U H λx a=>tG K T x a/\b U a λxs d=>r x xs d Q):wK K T r c b U H Q:=h
def jW{l:Addr}{ys:aQ}{R:Prop}(h:H l=some (.aq ys))(k:R):tG K "list" (.ref l) H/\R:=⟨.inl ⟨rfl,_,aT.of h⟩,k⟩
def lM{l:Addr}{ys:aQ}{y:V}(h:H l=some (.aq ys))(a:ys.length<sizeLine)(k:Q .aO (ai H l (.aq (ys++[y])))):zF (.ref l) [y] H Q:=⟨l,ys,y,rfl,rfl,h,a,k⟩
def Ut{c b:TE}{a:tZ}{v:V}{R:L2.St->Hp->Prop}(h:c U H λo d=>b U d λi e=>a o i v e λf=>R U f):uQ c b a v U H R:=h
def nq{p:Addr}{xs:aQ}{k:Int}{v:V}{R:Hp->Prop}(j:Nat)(h:H p=some (.aq xs))(c:k=(j:Int))(b:j<xs.length)(a:R (ai H p (.aq (xs.set j v)))):vX (.ref p) (.int k) v H R:=
 ⟨p,xs,k,j,rfl,rfl,h,by unfold mE;rw[Vh ⋯,Vh ⋯];congr 1;lia,a⟩
def kz{p:Addr}{xs:aQ}{i:Int}{v:V}(j:Nat)(h:H p=some (.aq xs))(a:i=(j:Int))(b:xs[j]? =some v)(k:Q v H):iC K (.ref p) (.int i) H Q:=
 .inl ⟨p,xs,i,v,rfl,rfl,aT.of h,by rw[a];exact ui b,k⟩
def C2{p:Addr}{xs:aQ}(h:H p=some (.aq xs))(k:Q (.int xs.length) H):qj K [.ref p] H Q:=⟨p,xs,rfl,.inl (aT.of h),k⟩
def r8{h:Type}{r:Rl h}{G:Hp}{v w:V}{xs ys:List h}(i:RL r G v xs)(j:RL r G w ys)(s:aB G H)(e:xs.length+ys.length<=sizeLine)(k:∀p us,H p=none->Paired (r G) us (xs++ys)->Q (.ref p) (ai H p (.aq us))):zG v w H Q:=by
 obtain⟨p,us,rfl,c,f⟩:=i;obtain⟨q,vs,rfl,d,g⟩:=j;refine⟨p,q,us,vs,rfl,rfl,s _ _ c,s _ _ d,by rw[VP f,VP g];exact e,λl m=>k l _ m ?_⟩;clear c d k e s;induction f with
 |nil=>exact g
 |cons a b n=>exact .cons a n
def oj(c:It)(n:TG)(p:TT)(o:TE)(vs:List Nat)(U:L2.St)(g:Hp)(Q:VK):Prop:=∀D,g D=none->∃e:Nat->Nat->Hp->Prop,(∃m,e 0 m (ai g D (.aq [])))/\∀i m H,e i m H->
 (c.kI i H/\Q (.ref D) H)\/(c.go i H/\∃d:Hp->Prop,(∀a,d a->∃k,k<m/\e (i+1) k a)/\∀x a,c.n_ i H x a->n x (cZ U vs) a λf l=>cZ f vs=cZ U vs/\p f l λb h=>
  if b=true then o f h λy j=>∃b_,j D=some (.aq b_)/\b_.length<sizeLine/\d (ai j D (.aq (b_++[y]))) else d h)
def UC{d:TI}{a:TG}{c:TT}{b:TE}{vs:List Nat}(h:d U H λf e=>oj f a c b vs U e Q):tD d a c b vs U H Q:=h
def yj{R:Bool->Hp->Prop}(h:R true H):qI U H R:=h
def vm{N:Type}{rr:Rl N}[Mo rr]{r:It}{J:TG}{M:TT}{L:TE}{vs:List Nat}{G:Hp}(n:Nat)(h:Nat->List N)(s:aB G H)(R:h 0=[])(V:∀j,j<n->(h j).length<sizeLine)
  (T:∀j a c,j<n->al H G a c->r.go j a)(W:∀a c,al H G a c->r.kI n a)
  (X:∀j a c x p (C:VK) (F:Hp->Prop),j<n->al H G a c->r.n_ j a x p->(∀y d l f,al a c l f->rr f y d->h (j+1)=h j++[d]->C y l)->(∀l f,al a c l f->h (j+1)=h j->F l)->
   J x (cZ U vs) p λE O=>cZ E vs=cZ U vs/\M E O λb I=>if b=true then L E I C else F I)
  (k:∀a c D ys,al H G a c->H D=none->a D=some (.aq ys)->c D=none->Paired (rr c) ys (h n)->Q (.ref D) a):oj r J M L vs U H Q:=by
 intro D t;refine⟨λi m a=>m=n-i/\i<=n/\∃c ys,al H G a c/\a D=some (.aq ys)/\c D=none/\Paired (rr c) ys (h i),⟨n,by simp,We _,G,[],al.kH s t,aS,s.free t,by rw[R];exact .nil⟩,?_⟩;rintro i m a ⟨rfl,aa,c,ys,e,o,B,v⟩;by_cases u:i<n
 ·refine .inr ⟨T i a c u e,λz=>∃w ys,al H G z w/\z D=some (.aq ys)/\w D=none/\Paired (rr w) ys (h (i+1)),λz q=>⟨n-(i+1),by omega,rfl,u,q⟩,λx p y=>?_⟩;refine X i a c x p _ _ u e y ?_ ?_
  ·intro y d l f g Y A;have S:=g.hs _ _ o;have K:f D=none:=g.fr D B (by rw[o];exact λd=>nomatch d);refine⟨ys,S,by rw[VP v];exact V i u,f,ys++[y],(e.trans g).eV t K,aS,K,?_⟩;rw[A];exact Xw (Paired.imp (λ_ _ d=>Mo.mo g.gs d) v) Y
  ·intro l f g A;refine⟨f,ys,e.trans g,g.hs _ _ o,g.fr D B (by rw[o];exact λd=>nomatch d),?_⟩;rw[A];exact Paired.imp (λ_ _ d=>Mo.mo g.gs d) v
 ·have P:i=n:=by omega
  subst P;exact .inl ⟨W a c e,k a c D ys e t o B v⟩
def CY{l A:Type}{r:Rl l}{rr:Rl A}[Mo r][Mo rr]{G:Hp}{v:V}{xs:List l}(f:l->A){z:TE}{i:Nat}{vs:List Nat}(h:RL r G v xs)(s:aB G H)(X:xs.length<sizeLine)
  (O:∀w:V,cZ ((cZ U vs).set i (some w)) vs=cZ U vs)
  (M:∀(c b:Hp)(w:V)(x:l)(R:VK),al H G c b->x∈xs->r b w x->(∀y g d,al c b g d->rr d y (f x)->R y g)->z ((cZ U vs).set i (some w)) c R)
  (k:∀c b D ys,al H G c b->H D=none->c D=some (.aq ys)->b D=none->Paired (rr b) ys (xs.map f)->Q (.ref D) c):∃a,v=.ref a/\(∃xs,aT K H a xs)/\oj (oi K a) (dA i) qI z vs U H Q:=by
 obtain⟨a,us,rfl,p,q⟩:=h;have L:us.length=xs.length:=VP q;have n:∀{c b},al H G c b->aT K c a us:=λe=>aT.of (e.ib _ _ p);refine⟨a,rfl,⟨us,aT.of (s _ _ p)⟩,vm (rr:=rr) xs.length (λj=>(xs.take j).map f) s (by simp) (λj m=>?_) ?_ ?_ ?_ ?_⟩
 ·rw[Vn,V0];lia
 ·intro j c b m e;exact⟨us,us[j],n e,by simp[L,m]⟩
 ·intro c b e;exact⟨us,n e,⋯⟩
 ·rintro j c b u W C T m e ⟨rfl,y⟩ J _;have N:=y us (n e);obtain⟨x,t,P⟩:=Paired.jb q N;refine uT ⟨O u,yj ?_⟩;rw[Vh rfl];refine M _ b u x _ e (Vf t) (e.up P) λy g d B S=>J y (f x) g d B S ?_;rw[VU,t,VN];rfl
 ·intro c b D ys e E F I o;rw[Wj] at o;exact k c b D ys e E F I o
def pX{d n:Type}{r:Rl d}{rr:Rl n}[Mo r][Mo rr]{G:Hp}{v:V}{xs:List d}(f:d->n){m:TE}{i:Nat}{vs:List Nat}(h:RL r G v xs)(s:aB G H)(t:xs.length<sizeLine)
  (z:∀w:V,cZ ((cZ U vs).set i (some w)) vs=cZ U vs)
  (u:∀(b c:Hp)(w:V)(x:d)(R:VK),al H G b c->x∈xs->r c w x->(∀y j g,al b c j g->rr g y (f x)->R y j)->m ((cZ U vs).set i (some w)) b R)
  (k:∀b c w,al H G b c->RL rr c w (xs.map f)->Q w b):∃a,v=.ref a/\(∃xs,aT K H a xs)/\oj (oi K a) (dA i) qI m vs U H Q:=
 CY f h s t z u λb c D ys e o p l q=>k b _ _ (e.gr o p l) (RL.new l q)
def CZ{q β Y:Type}{r:Rl q}{r':Rl β}{rr:Rl Y}[Mo r][Mo r'][Mo rr]{G:Hp}{v X:V}{xs:List q}{ys:List β}(f:q->β->Y){W:TE}{i z:Nat}{vs:List Nat}(h:RL r G v xs)(h':RL r' G X ys)(s:aB G H)(aq:xs.length<sizeLine)
  (ai:∀w g:V,cZ (((cZ U vs).set i (some w)).set z (some g)) vs=cZ U vs)
  (ah:∀(c d:Hp)(w g:V)(x:q)(y:β)(R:VK),al H G c d->(x,y)∈xs.zip ys->r d w x->r' d g y->(∀m p n,al c d p n->rr n m (f x y)->R m p)->W (((cZ U vs).set i (some w)).set z (some g)) c R)
  (k:∀c d w,al H G c d->RL rr d w (List.zipWith f xs ys)->Q w c):
  ∃a b xs ys,[v,X]=[V.ref a,V.ref b]/\aT K H a xs/\aT K H b ys/\oj (tL K a b) (pW K 2 (my (dA i) (my (dA z) rZ))) qI W vs U H Q:=by
 obtain⟨a,us,rfl,L,N⟩:=h;obtain⟨b,l,rfl,M,O⟩:=h';have ar:us.length=xs.length:=VP N;have as:l.length=ys.length:=VP O;have A:∀{c d},al H G c d->aT K c a us:=λe=>aT.of (e.ib _ _ L);have B:∀{c d},al H G c d->aT K c b l:=λe=>aT.of (e.ib _ _ M);refine⟨a,b,us,l,rfl,aT.of (s _ _ L),aT.of (s _ _ M),vm (rr:=rr) (min xs.length ys.length) (λj=>List.zipWith f (xs.take j) (ys.take j)) s (by simp) (λj J=>?_) ?_ ?_ ?_ ?_⟩
 ·rw[W9,V0,V0];lia
 ·intro j c d J e;exact⟨us,l,us[j]'⋯,l[j]'⋯,A e,B e,Ve _,Ve _⟩
 ·intro c d e;exact⟨us,l,A e,B e,⋯⟩
 ·rintro j c d u ap C ao J e ⟨T,w,g,rfl,af,rfl,y,an⟩ ae _;obtain⟨x,P,aj⟩:=Paired.jb N (y us (A e));obtain⟨m,S,am⟩:=Paired.jb O (an l (B e));have E:=al.new (o:=.aN [w,g]) e.sub af;have t:=e.trans E;refine⟨T,_,rfl,bi.of aS,rfl,_,_,rfl,_,_,rfl,rfl,ai w g,yj ?_⟩;rw[Vh rfl];have ag:(x,m)∈xs.zip ys:=Vf (i:=j) (by rw[List.getElem?_zip_eq_some];exact⟨P,S⟩);refine ah _ _ w g x m _ t ag (t.up aj) (t.up am) λy p n aa ak=>ae y (f x m) p n (E.trans aa) ak ?_;rw[VU,VU,P,S];show List.zipWith f (xs.take j++[x]) (ys.take j++[m])=_;rw[List.zipWith_append (by rw[V0,V0];lia)];rfl
 ·intro c d D vs e ac ad F I;refine k c _ _ (e.gr ac ad F) ?_;have ab:List.zipWith f (xs.take (min xs.length ys.length)) (ys.take (min xs.length ys.length))=List.zipWith f xs ys:=by
   rw[<-List.take_zipWith,VV (by rw[W9];lia)]
  rw[ab] at I;exact RL.new F I
def oK{v:Type}{rr:Rl v}[Mo rr]{l:It}{G:Hp}{t:TT}{r:TE}{i:Nat}{vs:List Nat}(n:Nat)(o:Nat->Int)(d:Nat->List v)(s:aB G H)(z:d 0=[])(J:∀j,j<n->(d j).length<sizeLine)
  (E:∀j a,j<n->l.go j a)(F:∀a,l.kI n a)(I:∀j a x p,l.n_ j a x p->p=a/\x=.int (o j))
  (L:∀w:V,cZ ((cZ U vs).set i (some w)) vs=cZ U vs)
  (K:∀j a c (C:VK) (g:Hp->Prop),j<n->al H G a c->(∀y u f h,al a c f h->rr h y u->d (j+1)=d j++[u]->C y f)->(∀f h,al a c f h->d (j+1)=d j->g f)->
   t ((cZ U vs).set i (some (.int (o j)))) a λb q=>if b=true then r ((cZ U vs).set i (some (.int (o j)))) q C else g q)
  (k:∀a c D ys,al H G a c->H D=none->a D=some (.aq ys)->c D=none->Paired (rr c) ys (d n)->Q (.ref D) a):oj l (dA i) t r vs U H Q:=by
 refine vm (rr:=rr) n d s z J (λj a _ m _=>E j a m) (λa _ _=>F a) ?_ k;intro j a c x M C g m e y A B;obtain⟨rfl,rfl⟩:=I _ _ _ _ y;exact uT ⟨L _,K j _ c C g m e A B⟩
end
def bn{P:Program}{w:World}{K:Frag}{c:df}{a:Heap}{N:cR}{e:Str}{g:Scope}{f:Addr}{b:Value}{A:Around}{d:List Env}{s:Shared}{H:Hp}{E:XK}:
  (kU jl P w K c a N e g f b A d s H E).K=K:=rfl
def qQ.fI{X:Cx}(R:qQ X){s:Shared}{H:Hp}{c:Scope}{a:Env}{b:bL}:qQ (X.fI s H c a b):=⟨R.tree,R.dp,R.gl⟩
def oA{P:Program}{w:World}{K:Frag}{l:df}{d:Heap}{N:cR}{c:Str}{a:Scope}{f:Addr}{b:Value}{A:Around}{m:List Env}{s:Shared}{H:Hp}{E:XK}{k:Nat}
  (j:P.given.tree=none)(i:db k (A.deeper (envOfC c a s.heap.objs.size f b)))(h:40<=k:=by decide)(g:a.isGenerator=false:=by rfl)(e:a.isCoroutine=false:=by rfl):qQ (kU jl P w K l d N c a f b A m s H E).nD:=
 ⟨j,db.div i h,_,_,rfl,g,e,rfl,rfl⟩
def br{b:TS}{a:iI}{c:L2.St}(d:L2.St){H:Hp}(h:b a d H)(e:c=d:=by rfl):b a c H:=by rw[e];exact h
structure Di(K:Frag)(C:Addr)(qual:Str)(st:Stmt)(ps:cR):Prop where
 ex:∃f fd,mX K "__init__" qual st f fd/\Mk K C f/\iG K fd ps []
structure Dm(K:Frag)(C:Addr)(m qual:Str)(st:Stmt)(ps:cR):Prop where
 ex:∃f fd,mX K m qual st f fd/\qU K C m f/\iG K fd ps []
structure kL(P:Program)(w:World)(K:Frag)(mg:df)(ah:Heap)(k:Nat)(C:Addr)(ps:cR)(sp:Sp):Prop where
 ex:∃f fd,gw P w K mg ah jl k f fd ps sp/\Mk K C f/\iG K fd ps []
structure ik(P:Program)(w:World)(K:Frag)(mg:df)(ah:Heap)(k:Nat)(C:Addr)(m:Str)(ps:cR)(sp:Sp):Prop where
 ex:∃f fd,gw P w K mg ah jl k f fd ps sp/\qU K C m f/\iG K fd ps []
section
variable{P:Program}{w:World}{K:Frag}{mg:df}{ah:Heap}{C:Addr}
def Di.fn{e:Str}{a:Stmt}{N ps:cR}{k:Nat}{sp:Sp}(i:Di K C e a ps)(n:bd N ps (aM a))(r:∀vs H Q E,sp vs H Q E->vs.length=ps.length)
  (p:∀(f:Addr)(c:Value)(A:Around)(d:List Env)(s:Shared)(H:Hp)(vs:aQ)(Q:VK)(E:XK),db k (A.deeper (envOfC e (aM a) s.heap.objs.size f c))->sp vs H Q E->
   ∃g,iK (kU jl P w K mg ah N e (aM a) f c A d s H E).nD (jq a) g/\g {nx:=λ_ l=>Q .aO l,rt:=Q} (start N vs) H):kL P w K mg ah (k+1) C ps sp:=by
 obtain⟨f,o,j,m,b⟩:=i.ex;exact⟨f,o,j.ok n r (λc A d s H vs Q E q h=>p f c A d s H vs Q E q h),m,b⟩
def Dm.fn{m e:Str}{a:Stmt}{N ps:cR}{k:Nat}{sp:Sp}(i:Dm K C m e a ps)(n:bd N ps (aM a))(r:∀vs H Q E,sp vs H Q E->vs.length=ps.length)
  (p:∀(f:Addr)(c:Value)(A:Around)(d:List Env)(s:Shared)(H:Hp)(vs:aQ)(Q:VK)(E:XK),db k (A.deeper (envOfC e (aM a) s.heap.objs.size f c))->sp vs H Q E->
   ∃g,iK (kU jl P w K mg ah N e (aM a) f c A d s H E).nD (jq a) g/\g {nx:=λ_ l=>Q .aO l,rt:=Q} (start N vs) H):ik P w K mg ah (k+1) C m ps sp:=by
 obtain⟨f,o,j,m,b⟩:=i.ex;exact⟨f,o,j.ok n r (λc A d s H vs Q E q h=>p f c A d s H vs Q E q h),m,b⟩
end
section
variable{X:Cx}{j k:Nat}{x m:Str}{ps:cR}{sp:Sp}{p pos fH:Pos}{e o:Expr}{es:en}{t:TA}{ta:TE}{C:Addr}
def nG(a:kL X.prog X.w X.K X.mg X.ah j C ps sp)(l:X.mg x=some (.ref C))(n:db k X.A)(c:PA X (e::es) t)(h:Gl X x:=by rfl)(i:j+1<=k:=by decide)(d:(x==("__debug__":Str))=false:=by decide)
  (g:starEach (e::es) X.ag=(false,eval e X.ag)::starEach es X.ag:=by rfl)(m:(backTo pos (starEach es X.ag)).any (·.1)=false:=by rfl):
  PE X (.Call (.Name x p) (e::es) [] pos) (tE C sp [] E0 t):=by
 obtain⟨f,o,a,M,b⟩:=a.ex;exact QA M a (n.aF i) h l b .nil sJ c d g m
def QF(a:kL X.prog X.w X.K X.mg X.ah j C ps sp)(g:X.mg x=some (.ref C))(h:db k X.A)(d:Gl X x:=by rfl)(e:j+1<=k:=by decide)(c:(x==("__debug__":Str))=false:=by decide):
  PE X (.Call (.Name x p) [] [] pos) (tE C sp [] E0 eU):=by
 obtain⟨f,i,a,M,b⟩:=a.ex;exact QB M a (h.aF e) d g b .nil sJ c
def jA{pl:Sem Bool}(h:PE X o ta)(c:dZ X.K C)(a:ik X.prog X.w X.K X.mg X.ah j C m ps sp)(p:db k X.A)(g:PA X (e::es) t)(i:j<=k:=by decide)
  (q:starEach (e::es) X.ag=(false,eval e X.ag)::starEach es X.ag:=by rfl)(n:(backTo pos (starEach es X.ag)).any (·.1)=false:=by rfl)
  (r:eval (.Call (.Attribute o m fH) (e::es) [] pos) X.ag=(do
   let d<-eval o X.ag
   standAt fH.atName
   let (f,first)<-holding [d] (getMethod d m pl)
   callWith pos f first (backTo pos (starEach (e::es) X.ag)) (backToKw pos (keywordEach [] X.ag))):=by rfl):
  PE X (.Call (.Attribute o m fH) (e::es) [] pos) (tF C m sp [] E0 ta t):=by
 obtain⟨f,s,a,l,b⟩:=a.ex;exact QD (pl:=pl) h c l a (p.aF i) b .nil sJ g q n r
def jj{pl:Sem Bool}(e:PE X o ta)(c:dZ X.K C)(a:ik X.prog X.w X.K X.mg X.ah j C m ps sp)(i:db k X.A)(g:j<=k:=by decide)
  (l:eval (.Call (.Attribute o m fH) [] [] pos) X.ag=(do
   let d<-eval o X.ag
   standAt fH.atName
   let (f,first)<-holding [d] (getMethod d m pl)
   callWith pos f first (backTo pos (starEach [] X.ag)) (backToKw pos (keywordEach [] X.ag))):=by rfl):
  PE X (.Call (.Attribute o m fH) [] [] pos) (tF C m sp [] E0 ta eU):=by
 obtain⟨f,n,a,h,b⟩:=a.ex;exact QE (pl:=pl) e c h a (i.aF g) b .nil sJ l
def cY(K:Frag){a:Expr}{f:Str}{b:Pos}{c:TE}(d:PE X o ta)(g:PE X a c)(e:swapsWith a (some (.Attribute o f b)) pos.line X.ag=pure false:=by rfl)(h:X.K=K:=by rfl):PS X (.Assign [.Attribute o f b] a pos) (zT K ta c f):=by subst h;exact Q8 d g e
def vU{K:Frag}{op:Operator}{c:Expr}{f:Str}{i:Pos}{b:TE}{a:V->V->Hp->VK->Prop}(d:PE X o ta)(g:PE X c b)(e:xc X op a)(h:X.K=K:=by rfl):PS X (.AugAssign (.Attribute o f i) op c pos) (zU K ta b a f):=by subst h;exact Q9 d g e
end
structure bG(x:Addr)(H G Z G':Hp):Prop where
 hs:∀b o,b≠x->H b=some o->Z b=some o
 gs:aB G G'
 sub:aB G' Z
 fr:∀b,G b=none->H b≠none->G' b=none
theorem al.x{x:Addr}{H G c a:Hp}(e:al H G c a):bG x H G c a:=⟨λb o _ h=>e.hs b o h,e.gs,e.sub,e.fr⟩
def bG.up{c:Type}{r:Rl c}[Mo r]{x:Addr}{H G d b:Hp}(a:bG x H G d b){v:V}{y:c}(h:r G v y):r b v y:=Mo.mo a.gs h
def bG.put{x:Addr}{H G:Hp}{o o':HO}(s:aB G H)(d:H x=some o)(c:G x=none):bG x H G (ai H x o') G:=
 ⟨λb u a h=>by rw[bA a];exact h,aB.refl _,λb u h=>by rw[bA (dI h c)];exact s b u h,λb h _=>h⟩
def bG.trans{x:Addr}{H G e f i g:Hp}(a:bG x H G e f)(b:bG x e f i g)(l:e x≠none):bG x H G i g:=
 ⟨λc o d h=>b.hs c o d (a.hs c o d h),a.gs.trans b.gs,b.sub,λc d k=>b.fr c (a.fr c d k) (by
  by_cases j:c=x
  ·subst j;exact l
  ·cases q:H c with
   |none=>exact absurd q k
   |some o=>rw[a.hs c o j q];exact λm=>nomatch m)⟩
def bG.then{x:Addr}{H G c d f e:Hp}{o:HO}(a:bG x H G c d)(g:c x=some o)(b:al c d f e):bG x H G f e:=a.trans b.x (by rw[g];exact λh=>nomatch h)
def bG.iW{x:Addr}{H G c b:Hp}{o o':HO}(a:bG x H G c b)(d:c x=some o)(e:b x=none):bG x H G (ai c x o') b:=a.trans (bG.put a.sub d e) (by rw[d];exact λf=>nomatch f)
def yY{H G d c:Hp}{x a C:Addr}{o:HO}(s:aB G H)(g:H x=none)(l:H a=none)(e:bG x (ai (ai H a (.own x)) x (.aA C a [])) G d c)(r:d x=some o)(p:c x=none):al H G d (ai c x o):=by
 refine⟨λb u h=>e.hs b u (dI h g) ?_,e.gs.trans (aB.new p),λb u q=>?_,λb n f=>?_⟩
 ·rw[bA (dI h g),bA (dI h l)];exact h
 ·by_cases k:b=x
  ·subst k;rw[aS] at q;rw[<-q];exact r
  ·rw[bA k] at q;exact e.sub b u q
 ·have j:b≠x:=λi=>by subst i;exact f g
  have m:b≠a:=λi=>by subst i;exact f l
  rw[bA j];refine e.fr b n ?_;rw[bA j,bA m];exact f
def qd{H G:Hp}{x a C:Addr}(s:aB G H)(d:H x=none)(c:H a=none):aB G (ai (ai H a (.own x)) x (.aA C a [])):=λb u h=>by have h':=s b u h;rw[bA (dI h' d),bA (dI h' c)];exact h'
def xb(K:Frag)(x:V)(f:Str)(H:Hp)(R:Addr->Addr->V->Prop):Prop:=∃a C c b v,x=.ref a/\H a=some (.aA C c b)/\dZ K C/\cq K C f/\b.lookup f=some v/\R a C v
def d_(K:Frag)(x:V)(f:Str)(H:Hp)(R:V->Prop):Prop:=∃a C c b v,x=.ref a/\H a=some (.aA C c b)/\dZ K C/\cq K C f/\b.lookup f=some v/\R v
section
variable{K:Frag}{U:L2.St}{H:Hp}{Q:VK}{D:iI}{E:XK}
def UE{C:Addr}{sp:Sp}{d:TA}(h:d U H λvs b=>∀x a,b x=none->b a=none->a≠x->sp (.ref x::vs) (ai (ai b a (.own x)) x (.aA C a [])) (λv c=>v=.aO/\Q (.ref x) c) E):tE C sp [] E d U H Q:=by show d U H λvs b=>∀x a,b x=none->b a=none->a≠x->sp (.ref x::(vs++[])) (ai (ai b a (.own x)) x (.aA C a [])) (λv c=>v=.aO/\Q (.ref x) c) E;simp only[Wo];exact h
def UG{C:Addr}{m:Str}{sp:Sp}{g:TE}{f:TA}(h:g U H λx b=>∃a e c,x=.ref a/\b a=some (.aA C e c)/\c.lookup m=none/\f U b λvs d=>sp (x::vs) d Q E):tF C m sp [] E g f U H Q:=by show g U H λx b=>∃a e c,x=.ref a/\b a=some (.aA C e c)/\c.lookup m=none/\f U b λvs d=>sp (x::(vs++[])) d Q E;simp only[Wo];exact h
def Uo{v:V}{f:Str}{R:V->Prop}(h:d_ K v f H R):d_ K v f H R:=h
def Uj{b:TE}{f:Str}(h:b U H λx a=>d_ K x f a λv=>Q v a):wL K b f U H Q:=h
def U'{f:Str}{v:V}{a:cK}{r:b9}(h:some v=r:=by with_unfolding_all rfl):(aD f v a).lookup f=r:=by rw[vA,Vh rfl];exact h
def U_{f a:Str}{v:V}{b:cK}{r:b9}(k:b.lookup a=r)(h:¬a=f:=by decide+kernel):(aD f v b).lookup a=r:=by rw[vA,Vg h];exact k
def cH{a C d:Addr}{b:cK}{f:Str}{v:V}{R:V->Prop}(h:H a=some (.aA C d b))(c:dZ K C)(n:cq K C f)(l:b.lookup f=some v)(k:R v):d_ K (.ref a) f H R:=⟨a,C,d,b,v,rfl,h,c,n,l,k⟩
def UZ{e g:TE}{f:Str}(h:g U H λy i=>e U i λx c=>∃a C d b,x=.ref a/\c a=some (.aA C d b)/\dZ K C/\cq K C f/\b.length<1000/\D.nx U (ai c a (.aA C d (aD f y b)))):zT K e g f D U H:=h
def cX{a C d:Addr}{b:cK}{f:Str}{y:V}{R:Hp->Prop}(h:H a=some (.aA C d b))(c:dZ K C)(n:cq K C f)(l:b.length<1000)(k:R (ai H a (.aA C d (aD f y b)))):
  ∃e C d b,V.ref a=.ref e/\H e=some (.aA C d b)/\dZ K C/\cq K C f/\b.length<1000/\R (ai H e (.aA C d (aD f y b))):=⟨a,C,d,b,rfl,h,c,n,l,k⟩
def U0{n l:TE}{k:V->V->Hp->VK->Prop}{f:Str}(h:n U H λx c=>xb K x f c λa C v=>l U c λy i=>k v y i λj d=>∃g b,d a=some (.aA C g b)/\b.length<1000/\D.nx U (ai d a (.aA C g (aD f j b)))):zU K n l k f D U H:=by
 have e:(λx c=>xb K x f c λa C v=>l U c λy i=>k v y i λj d=>∃g b,d a=some (.aA C g b)/\b.length<1000/\D.nx U (ai d a (.aA C g (aD f j b))))=λx c=>∃a C o m v,x=.ref a/\c a=some (.aA C o m)/\dZ K C/\cq K C f/\m.lookup f=some v/\
  l U c λy i=>k v y i λj d=>∃g b,d a=some (.aA C g b)/\b.length<1000/\D.nx U (ai d a (.aA C g (aD f j b))):=rfl
 rw[e] at h;exact h
def uR{a C d:Addr}{b:cK}{f:Str}{v:V}{R:Addr->Addr->V->Prop}(h:H a=some (.aA C d b))(c:dZ K C)(n:cq K C f)(l:b.lookup f=some v)(k:R a C v):xb K (.ref a) f H R:=⟨a,C,d,b,v,rfl,h,c,n,l,k⟩
def iB{f:Str}{v:V}{a:cK}{n:Nat}(h:a.length<=n):(aD f v a).length<=n+1:=Vy (yJ f v a) ⋯
end
def Dn(a:ao)(i:Int):k8 (.int i) (a.map V.int)=gn a i:=by unfold k8 gn;rw[List.any_map];rfl
def oI{K:Frag}{H:Hp}{Q:VK}{p:Addr}{i:Int}(a:ao)(h:bi K H p (a.map V.int))(k:Q (.bl (gn a i)) H):sS K false (.int i) (.ref p) H Q:=by
 refine⟨p,a.map V.int,rfl,.inr h,rfl,?_,?_⟩
 ·rw[VO];intro v b;obtain⟨n,_,rfl⟩:=Vz.mp b;rfl
 ·show Q (.bl (k8 (.int i) (a.map V.int))) H;rw[Dn];exact k
def uS{H:Hp}{Q:VK}{i j:Int}(k:Q (.int (i+j)) H):Fw (.int i) (.int j) H Q:=⟨i,j,rfl,rfl,k⟩
inductive oZ{β:Type}(C:Addr)(args:Hp->List V->β->Prop)(Fs:Hp->List (Str×V)->β->Prop)(vs:List V)(H:Hp)(Q:VK)(E:XK):Prop
 |mk (G x dx us b) (_:vs=.ref x::us) (_:aB G H) (_:G x=none) (_:H x=some (.aA C dx [])) (_:args G us b) (_:∀Z G' fs,bG x H G Z G'->Z x=some (.aA C dx fs)->G' x=none->Fs G' fs b->Q .aO Z):oZ C args Fs vs H Q E
def yi{β:Type}{C:Addr}{args:Hp->aQ->β->Prop}{Fs:Hp->cK->β->Prop}{rr:Rl β}{H:Hp}{Q:VK}{E:XK}{us:aQ}{b:β}(G:Hp)(s:aB G H)(n:args G us b)
  (o:∀(G:Hp)(x a:Addr)(f:cK),G x=none->Fs G f b->rr (ai G x (.aA C a f)) (.ref x) b)(k:∀d c v,al H G d c->rr c v b->Q v d):
  ∀x a,H x=none->H a=none->a≠x->oZ C args Fs (.ref x::us) (ai (ai H a (.own x)) x (.aA C a [])) (λv j=>v=.aO/\Q (.ref x) j) E:=by
 intro x a g i _;refine⟨G,x,a,us,b,rfl,qd s g i,s.free g,aS,n,λd c f e l h m=>⟨rfl,?_⟩⟩;exact k d _ _ (yY s g i e l h) (o c x a f h m)
def Re{X:Cx}:type_of%(@pv X 10):= @pv X 10
def Fu{X:Cx}:type_of%(@pv X 9):= @pv X 9
def vW{X:Cx}:type_of%(@pv X 8):= @pv X 8
def gZ{X:Cx}:type_of%(@pv X 7):= @pv X 7
def eF{X:Cx}:type_of%(@pv X 6):= @pv X 6
def da{X:Cx}:type_of%(@pv X 5):= @pv X 5
def bP{X:Cx}:type_of%(@pv X 4):= @pv X 4
def aZ{X:Cx}:type_of%(@pv X 3):= @pv X 3
def aP{X:Cx}:type_of%(@pv X 2):= @pv X 2
def ax{X:Cx}:type_of%(@pv X 1):= @pv X 1
def ap{X:Cx}:type_of%(@pv X 0):= @pv X 0
def iy(b x:Int):Int:=if x>b then x else b
def oM(d:Int):ao->Int
 |[]=>d
 |n::r=>r.foldl iy n
def kE(a:Nat->Int):Nat->Nat->Int->Int
 |0,_,b=>b
 |k+1,j,b=>kE a k (j+1) (iy b (a j))
theorem DU(a:Nat->Int):∀(l:ao)(j:Nat)(b:Int),(∀i (h:i<l.length),a (j+i)=l[i])->kE a l.length j b=l.foldl iy b
 |[],_,_,_=>rfl
 |x::l,j,b,h=>by have c:a j=x:=h 0 (by simp);show kE a l.length (j+1) (iy b (a j))=l.foldl iy (iy b x);rw[c];refine DU a l (j+1) _ λi d=>?_;have:=h (i+1) (by simpa using d);rw[show j+1+i=j+(i+1) by lia];simpa using this
section
variable{prog:Program}{w:World}{A:Around}{R:Result->Shared->Prop}{I:Addr}{fp wr:bL}{n:Nat}{P:Nat->Value->Prop}{St:Nat->Heap->Prop}
def vK:(toString "max"++toString ".loop":String)="max.loop":=by decide
def Oz(u:Walks prog w A.in1 I fp wr n P St)(d:Nat->Int)(S:∀i v,P i v->∃h,v=.int (d i) h)(f:Addr)(K:f∉fp)(T:List (Str×Value)):
  ∀(k j:Nat)(s:Shared)(b:Int)(h l:Tok)(c:Nat),n-j=k->j<=n->St j s.heap->s.heap.get? f=some {cls:=.type "list",dict:=none,data:=.seq #[.int b h,.int b l] c,slots:= #[]}->
  (∀B tk t',(∀a o,a∉wr->a≠f->s.heap.get? a=some o->B.get? a=some o)->R (.ok (.ret (.int (kE d k j b) t'))) {s with heap:=B,toks:=tk})->
  codeAny (model prog w) A (.builtin "max.loop" ⟨[.ref I,.none,.ref f],T⟩) R s:=by
 have L:f∉wr:=λJ=>K (u.sub _ J);intro k;induction k with
 |zero=>
  intro j s b h l c Q O G t y;obtain rfl:j=n:=by lia
  refine codeAny_builtin PySem.F.entry_max_loop ?_;rw[Around.under_plainId WG _];show wpAny (model prog w) A.in1 (seqItems? (.ref f)>>=_) _ _ s;refine Vi (WB t rfl ?_);show wpAny (model prog w) A.in1 (tryCatch (pyNext (.ref I)) _>>=_) _ _ s;refine Vi (wpAny_tryCatch (u.done s _ _ G λB tk r=>?_));show wpAny (model prog w) A.in1 (updateSeq f (λ_=> #[])>>=_) _ _ _;refine Vi ?_;refine wpAny_updateSeq (r f _ L t) rfl (Vi (wpAny_letGo (VL ?_)));exact y _ tk h λa o g p q=>(WN _ _ (Ne.symm p)).trans (r a o g q)
 |succ k M=>
  intro j s b h l c Q O G t y;refine codeAny_builtin PySem.F.entry_max_loop ?_;rw[Around.under_plainId WG _];show wpAny (model prog w) A.in1 (seqItems? (.ref f)>>=_) _ _ s;refine Vi (WB t rfl ?_);show wpAny (model prog w) A.in1 (tryCatch (pyNext (.ref I)) _>>=_) _ _ s;refine Vi (wpAny_tryCatch (u.item j s _ _ ⋯ G λv B tk pv N r=>?_));obtain⟨m,rfl⟩:=S j v pv;have C:=r f _ L t;show wpAny (model prog w) A.in1 (tryCatch (holding [.int (d j) m,.int (d j) m] (richCompare .Gt (.int (d j) m) (.int b l)>>=_)) _>>=_) _ _ _;refine Vi (wpAny_tryCatch (wpAny_holding (Vi (richCompare_gives (op:=.Gt) (typeIs_int _ _ m) (typeIs_int _ _ l) PySem.F.slot_int_gt PySem.F.entry_int_gt (PySem.F.args_int_gt_2 _ _) (gives_int_gt _ _ m l) (λx=>nomatch x) ?_))));refine Vi (wpAny_holding (Xv ?_));refine Vi (wpAny_letGo (VL ?_));by_cases z:d j>b
  ·rw[Vx z];simp only[WF];refine Vi ?_;refine wpAny_updateSeq C rfl (Vi (wpAny_letGo ?_));rw[vK];refine VL ⟨plainId_quiet WG _,M (j+1) _ (d j) m m _ ⋯ ⋯ (u.frame _ _ _ N λa g o q=>?_) (Heap.get?_update_self _ C rfl) λD H t' E=>?_⟩
   ·exact(WN _ _ (λJ:f=a=>K (by rw[J];exact g))).trans q
   ·have e:kE d (k+1) j b=kE d k (j+1) (d j):=by show kE d k (j+1) (iy b (d j))=_;unfold iy;rw[Vh z]
    rw[<-e];exact y D H t' λa o g p q=>E a o g p ((WN _ _ (Ne.symm p)).trans (r a o g q))
  ·rw[VF z];simp only[Bool.false_eq_true,W5];refine Vi (wpAny_letGo ?_);rw[vK];refine VL ⟨plainId_quiet WG _,M (j+1) _ b h l c ⋯ ⋯ N C λD H t' E=>?_⟩;have e:kE d (k+1) j b=kE d k (j+1) b:=by show kE d k (j+1) (iy b (d j))=_;unfold iy;rw[Vg z]
   rw[<-e];exact y D H t' λa o g p q=>E a o g p (r a o g q)
def JM(a d:Value):argsOk "max" ⟨[a],[(Str.ofString "default",d)]⟩:=by unfold argsOk;kernel_rfl
def Ku{E:ci}{s:Shared}{l:Addr}{xs:Array (Int×Tok)}{d:Int}{td:Tok}{Q:ci}(V:A.handled=none)(I:s.heap.IsList l (intItems xs))
  (h:∀m tk t',(∀b o,s.heap.get? b=some o->m.get? b=some o)->Q (.int (oM d (xs.toList.map (·.1))) t') {s with heap:=m,toks:=tk}):
  wpAny (model prog w) A (call (.builtin "max") [.ref l] [(Str.ofString "default",.int d td)]) Q E s:=by
 refine PyProof.Rows.kmk_tree PySem.F.kind_max PySem.F.plain_max PySem.F.entry_max (JM _ _) ?_;show wpAny (model prog w) A.in1 (Builtin.Builtins.bindParams "max" ["key","default"] 0 ⟨[],[(Str.ofString "default",.int d td)]⟩>>=_) _ _ s;refine Vi (wpAny_of_eq (show Builtin.Builtins.bindParams "max" ["key","default"] 0 ⟨[],[(Str.ofString "default",.int d td)]⟩=pure [none,some (.int d td)] from rfl) ?_);refine Vi (VL ?_);refine Vi (iter_intList I λaf P N T X=>?_);subst P;refine Vi (wpAny_newList ?_ (We _));rw[vK];refine VL ⟨plainId_quiet WG _,?_⟩;have j:=Walks.list (prog:=prog) (w:=w) (A:=A.in1) V s.heap.objs.size l X (intItems xs);have J:l<s.heap.objs.size:=by obtain⟨_,q,_⟩:=I;exact VD q
 generalize G:s.heap.push {cls:=.type "list_iterator",data:=.fields #[.ref l,.int 0 0]}=c at N T ⊢;have hsz:c.objs.size=s.heap.objs.size+1:=by rw[<-G];exact size_push' ..
 have ab:∀b o,s.heap.get? b=some o->c.get? b=some o:=λb o q=>by rw[<-G];exact Vk _ q
 have u:c.objs.size∉[s.heap.objs.size,l]:=λg=>by
  have f:c.objs.size=s.heap.objs.size\/c.objs.size=l:=by simpa using g
  rcases f with f|f
  ·rw[hsz] at f;exact absurd f (Nat.succ_ne_self _)
  ·rw[<-f,hsz] at J;exact absurd J (Nat.not_lt.mpr (Nat.le_succ _))
 have O:=j.frame 0 _ (c.push (seqObj "list" #[] 0)) N λb _ o q=>Vk _ q;have C:(c.push (seqObj "list" #[] 0)).get? c.objs.size=some (seqObj "list" #[] 0):=VM _ rfl;have k:∀b o,s.heap.get? b=some o->b∉[s.heap.objs.size]/\b≠c.objs.size:=λb o q=>by
  have H:=VD q;refine⟨λg=>?_,Wc (by rw[hsz];exact Nat.lt_succ_of_lt H)⟩;have f:b=s.heap.objs.size:=by simpa using g
  exact absurd f (Wc H)
 have M:∀b o,s.heap.get? b=some o->(c.push (seqObj "list" #[] 0)).get? b=some o:=λb o q=>Vk _ (ab b o q);refine codeAny_builtin PySem.F.entry_max_loop ?_;rw[Around.under_plainId WG _];show wpAny (model prog w) A.in1 (seqItems? (.ref c.objs.size)>>=_) _ _ _;refine Vi (WB C rfl ?_);show wpAny (model prog w) A.in1 (tryCatch (pyNext (.ref s.heap.objs.size)) _>>=_) _ _ _;by_cases K:xs.size=0
 ·refine Vi (wpAny_tryCatch (j.done _ _ _ (by simpa[intItems,K] using O) λm tk p=>?_));show wpAny (model prog w) A.in1 (rule _>>=_) _ _ _;refine Vi (wpAny_rule ?_);refine VL ?_;have e:oM d (xs.toList.map (·.1))=d:=by
   have:xs= #[]:=Array.size_eq_zero_iff.mp K;rw[this];rfl
  rw[e] at h;exact h m tk td λb o q=>p b o (k b o q).1 (M b o q)
 ·have z:0<(intItems xs).size:=by simp[intItems];lia
  refine Vi (wpAny_tryCatch (j.item 0 _ _ _ z O λv m tk pv ac p=>?_));obtain⟨t,rfl⟩:=intItems_at pv;have D:=p _ _ (λg=>u (Vo.mpr (Or.inl (VH.mp g)))) C;show wpAny (model prog w) A.in1 (updateSeq c.objs.size (λ_=> #[.int (numAt xs 0) t,.int (numAt xs 0) t])>>=_) _ _ _;refine Vi ?_;refine wpAny_updateSeq D rfl ?_;rw[vK];refine VL ⟨plainId_quiet WG _,Oz j (numAt xs) (λ_ _=>intItems_at) c.objs.size u _ ((intItems xs).size-1) 1 _ (numAt xs 0) t t _ rfl ⋯ (j.frame _ _ _ ac λa S o q=>?_) (Heap.get?_update_self _ D rfl) λY ad t' aa=>?_⟩
  ·exact(WN _ _ (λg:c.objs.size=a=>u (by rw[g];exact S))).trans q
  ·have e:kE (numAt xs) ((intItems xs).size-1) 1 (numAt xs 0)=oM d (xs.toList.map (·.1)):=by
    have B:(intItems xs).size=xs.toList.length:=by simp[intItems]
    rw[B];have x:∀i (n:i<xs.toList.length),numAt xs i=(xs.toList[i]).1:=by
     intro i n;have W:i<xs.size:=by simpa using n
     simp[numAt,W]
    generalize ae:xs.toList=L at x B;cases L with
    |nil=>rw[B] at z;exact absurd z (by simp)
    |cons y r=>have R:numAt xs 0=y.1:=x 0 (by simp);rw[R];show kE (numAt xs) r.length 1 y.1=(r.map (·.1)).foldl iy y.1;rw[<-DU (numAt xs) (r.map (·.1)) 1 y.1 (λi n=>?_),Vn];have:=x (i+1) (by simpa using n);rw[show 1+i=i+1 by lia];simpa using this
   rw[e];refine h Y ad t' λb o q=>aa b o (k b o q).1 (k b o q).2 ?_;exact(WN _ _ (Ne.symm (k b o q).2)).trans (p b o (k b o q).1 (M b o q))
end
section
variable{X:Cx}{e:Expr}{t:TA}{p pos vj fY:Pos}{d:Int}{dj:Nat}
def IM(K:Frag)(d:Int)(t:TA):TE:=λc H Q=>t c H λvs a=>∃(q:Addr)(b:ao),vs=[.ref q]/\aT K a q (b.map V.int)/\Q (.int (oM d b)) a
def JV:bootBuiltins "max"=some (.builtin "max"):=by decide+kernel
def QC{K:Frag}(A:Gl X "max")(E:X.mg "max"=none)(x:PA X [e] t)(w:X.K=K:=by rfl)(y:X.ki=true:=by rfl)
  (z:backTo pos (starEach [e] X.ag)=(false,eval e X.ag)::backTo pos (starEach [] X.ag):=by rfl)(F:(backTo pos (starEach [e] X.ag)).any (·.1)=false:=by rfl):
  PE X (.Call (.Name "max" p) [e] [⟨some "default",.Constant (.int d) dj fY,vj⟩] pos) (IM K d t):=by
 subst w;intro aa s n H Q j h;refine Xn (mL j A E JV ?_);refine callWith_kw (bu (x pos aa s n H _ j h) λus O ⟨vs,g,o,r,q⟩=>?_) z F;have I:PK X [⟨some "default",.Constant (.int d) dj fY,vj⟩] (dD (tC (.int d)) eU):=QP az QQ;refine bu (I pos aa O n g (λws i=>ws=[.int d]/\i=g) o ⟨rfl,rfl⟩) λws P ⟨V,i,b,M,c,v⟩=>?_;subst c v;obtain⟨a,f,rfl,C,k⟩:=q;obtain⟨u,rfl,J⟩:=qK r;cases J;obtain⟨T,rfl,N⟩:=qK M;obtain⟨td,rfl⟩:=N;obtain⟨G,L,pl,S⟩:=b.list C;have l:=Do L;obtain⟨ys,m⟩:=l.allInts.items;have D:P.heap.IsList a (intItems ys):=m▸pl.isList;refine Ku (d:=d) (td:=td) (b.ok.hd y) D λR tk t' B=>?_;have c:f=ys.toList.map (·.1):=by rw[<-nums_intItems, <-m];exact(show numsOf G.toArray.toList=f from l.numsOf).symm
 rw[<-c];exact⟨.int (oM d f),_,b.kept (t':=tk) B,⟨_,rfl⟩,k⟩
def UF{K:Frag}{c:L2.St}{H:Hp}{Q:VK}(h:t c H λvs a=>∃(q:Addr)(b:ao),vs=[.ref q]/\aT K a q (b.map V.int)/\Q (.int (oM d b)) a):IM K d t c H Q:=h
end
open Sem (wp)
section
variable{prog:Program}{w:World}{A:Around}{E:ci}{s:Shared}
def MA{b a:Addr}{i:Nat}{f:Array Value}{x:Value}{Q:ci}(e:s.heap.IsTupleIter b a i)(l:s.heap.IsTuple a f)(m:f[i]? =some x)
  (k:∀h',h'.IsTupleIter b a (i+1)->Heap.SameBut b s.heap h'->Q x {s with heap:=h'}):wpAny (model prog w) A (Builtin.SmallTypes.nextOf (.ref b)) Q E s:=by
 have ty:=e.typeIs;obtain⟨o,d,g,c⟩:=e;obtain⟨p,j,_,n,h⟩:=l;unfold Builtin.SmallTypes.nextOf;refine Vi (wpAny_callSpecial?_slot (name:=Str.ofString "__next__") ty F.slot_tuple_iterator_next (wpAny_call_entry F.slot_tuple_iterator_next ty F.entry_tuple_iterator_next ?_ (F.args_tuple_iterator_next_1 _)));show wpAny _ _ (field (.ref b) 0>>=_) _ _ s;refine Vi (WZ d c (x:=.ref a) rfl ?_);show wpAny _ _ (if (Value.ref a==Value.none)=true then _ else _) _ _ s;rw[Vg (show ¬((Value.ref a==Value.none)=true) from VG)];show wpAny _ _ (field (.ref b) 1>>=_) _ _ s;refine Vi (WZ d c (x:=.int i 0) rfl ?_);show wpAny _ _ (seqItems? (.ref a)>>=_) _ _ s;refine Vi (WB j h ?_);simp only[VE,m];exact Vi (wpAny_setField d c (by simp) (VL ⟨x,rfl,VL (k _ ⟨_,Heap.get?_update_self _ d (Obj.isFreed_of_fields (Obj.data_mapFields c _)),(Obj.cls_mapFields ..).trans g,by rw[Obj.data_mapFields c];simp[rawInt]⟩ (Heap.SameBut.update ..))⟩))
def MB{c b:Addr}{i:Nat}{j:Array Value}{Q:ci}(g:A.handled=none)(h:s.heap.IsTupleIter c b i)(r:s.heap.IsTuple b j)(t:j[i]? =none)
  (k:∀h' e,Heap.ExtBut c s.heap h'->(∃o,h'.get? e=some o/\o.cls=.type "StopIteration")->E (.ref e) {s with heap:=h'}):wpAny (model prog w) A (Builtin.SmallTypes.nextOf (.ref c)) Q E s:=by
 have ty:=h.typeIs;obtain⟨o,f,u,d⟩:=h;obtain⟨p,q,_,n,l⟩:=r;unfold Builtin.SmallTypes.nextOf;refine Vi (wpAny_callSpecial?_slot (name:=Str.ofString "__next__") ty F.slot_tuple_iterator_next (wpAny_call_entry F.slot_tuple_iterator_next ty F.entry_tuple_iterator_next ?_ (F.args_tuple_iterator_next_1 _)));show wpAny _ _ (field (.ref c) 0>>=_) _ _ s;refine Vi (WZ f d (x:=.ref b) rfl ?_);show wpAny _ _ (if (Value.ref b==Value.none)=true then _ else _) _ _ s;rw[Vg (show ¬((Value.ref b==Value.none)=true) from VG)];show wpAny _ _ (field (.ref c) 1>>=_) _ _ s;refine Vi (WZ f d (x:=.int i 0) rfl ?_);show wpAny _ _ (seqItems? (.ref b)>>=_) _ _ s;refine Vi (WB q l ?_);simp only[VE,t];refine Vi (wpAny_rule (Vi (wpAny_setField f d (by simp) ?_)));show wpAny _ _ (newExc (.type "StopIteration") []>>=_) _ _ _;refine Vi ?_;simp only[newExc,newTuple];refine Vi (wpAny_newObj_type ?_ (by size_fits));refine Vi (m:=firstArgMember _ _) (wpAny_of_eq (a:=Value.none) (by first|rfl|(simp only[firstArgMember];rfl)) ?_);refine wpAny_newObj_type ?_ (by size_fits);simp only[raiseNew];refine Vi (wpAny_handled ?_);first|rw[show A.in1.handled=none from g]|rw[g]
 exact Vi (VL (wpAny_throw (k _ _ (((Heap.SameBut.update ..).extBut.push _).push _) ⟨_,VM _ rfl,rfl⟩)))
def TW{f TI TO h i l z:Addr}{C D:Nat}{xs ys:Array Value}{x y a b:Value}{Q:ci}(d:ZipApart f TI TO h i l z)(r:IsZip s.heap f TI TO .none)(al:IsPair s.heap TI (.ref h) (.ref i))(am:IsPair s.heap TO a b)
  (aj:s.heap.IsListIter h l C)(ak:s.heap.IsTupleIter i z D)(an:s.heap.IsList l xs)(ao:s.heap.IsTuple z ys)(ap:xs[C]? =some x)(aq:ys[D]? =some y)
  (k:∀h',IsZip h' f TI TO (rawInt s.heap.objs.size)->IsPair h' TO x y->h'.IsListIter h l (C+1)->h'.IsTupleIter i z (D+1)->IsPair h' s.heap.objs.size x y->h'.objs.size=s.heap.objs.size+1->(∀c o,c≠f->c≠TO->c≠h->c≠i->s.heap.get? c=some o->h'.get? c=some o)->Q (.ref s.heap.objs.size) {s with heap:=h'}):
  wpAny (model prog w) A (Builtin.«zip.__next__» ⟨[.ref f],[]⟩) (λad as=>∃v,ad=.done (.ret v)/\Q v as) E s:=by
 show wpAny _ _ (field (.ref f) 2>>=_) _ _ _;refine Vi (WZ r rfl (x:=.bool false) rfl ?_);show wpAny _ _ (field (.ref f) 3>>=_) _ _ _;refine Vi (WZ r rfl (x:=.ref TI) rfl (Vi (WB al rfl ?_)));show wpAny _ _ (Builtin.SmallTypes.ownedTupleIsFree (.ref f)>>=_) _ _ _;refine Vi ?_;unfold Builtin.SmallTypes.ownedTupleIsFree;refine Vi (WZ r rfl (x:=.none) rfl (VL ?_));simp only[WF];refine Vi (wpAny_rule (Vi (WZ r rfl (x:=.ref TO) rfl ?_)));refine Vi (Xl r (by simp) λae N m=>Vi ?_);replace N:IsZip ae f TI TO .ellipsis:=N;simp only[List.zipIdx_cons,List.zipIdx_nil,List.forIn_cons,List.forIn_nil];refine Vi (Vi (wpAny_onRaise ?_));show wpAny _ _ (Builtin.SmallTypes.nextOf (.ref h)>>=_) _ _ _;refine Vi (wpAny_nextOf_list_item (aj.extBut m.extBut d.i1z) (an.extBut m.extBut d.l1z) ap λaf Y n=>VL ?_);have R:IsPair af TO a b:=n.extBut _ _ d.TOi1 (m.extBut _ _ d.TOz am);refine Vi (WB R rfl (Vi (wpAny_updateSeq_pair R λag K p=>?_)));replace K:IsPair ag TO x b:=K;refine Vi (wpAny_letGo (VL ?_));refine Vi (Vi (wpAny_onRaise ?_));show wpAny _ _ (Builtin.SmallTypes.nextOf (.ref i)>>=_) _ _ _;have au:=((ak.extBut m.extBut d.i2z).extBut n.extBut d.i12.symm).extBut p.extBut d.TOi2.symm;have av:=((ao.extBut m.extBut d.l2z).extBut n.extBut d.l2i1).extBut p.extBut d.l2TO;refine Vi (MA au av aq λah ab t=>VL ?_);have S:IsPair ah TO x b:=t.extBut _ _ d.TOi2 K;refine Vi (WB S rfl (Vi (wpAny_updateSeq_pair S λg F u=>?_)));replace F:IsPair g TO x y:=F;refine Vi (wpAny_letGo (VL (VL (Vi (WB F rfl (Vi (wpAny_newTuple ?_)))))));have T:g.objs.size=s.heap.objs.size:=by rw[u.1,t.1,p.1,n.1,m.1]
 have W:IsZip g f TI TO .ellipsis:=u.extBut _ _ d.TOz.symm (t.extBut _ _ d.i2z.symm (p.extBut _ _ d.TOz.symm (n.extBut _ _ d.i1z.symm N)));have ar:∀c o,c≠f->c≠TO->c≠h->c≠i->s.heap.get? c=some o->g.get? c=some o:=λc o j B I J e=>u.extBut _ _ B (t.extBut _ _ J (p.extBut _ _ B (n.extBut _ _ I (m.extBut _ _ j e))));have aa:g.IsListIter h l (C+1):=((Y.extBut p.extBut d.TOi1.symm).extBut t.extBut d.i12).extBut u.extBut d.TOi1.symm;have ac:g.IsTupleIter i z (D+1):=ab.extBut u.extBut d.TOi2.symm;have X:f<g.objs.size:=VD W;show wpAny _ _ (Builtin.SmallTypes.ownedTupleHandOut (.ref f) (.ref g.objs.size)>>=_) _ _ _;refine Vi ?_;unfold Builtin.SmallTypes.ownedTupleHandOut;have aw:IsZip (g.push {cls:=.type "tuple",data:=.seq #[x,y]}) f TI TO .ellipsis:=Vk _ W;refine Vi (Xl aw (by simp) λai O L=>?_);replace O:IsZip ai f TI TO (rawInt g.objs.size):=O;refine Xl O (by simp) λq H M=>?_;replace H:IsZip q f TI TO (rawInt g.objs.size):=H;have G:∀c o,c≠f->g.get? c=some o->q.get? c=some o:=λc o j e=>M.extBut _ _ j (L.extBut _ _ j (Vk _ e));have V:IsPair q g.objs.size x y:=M.extBut _ _ (Nat.ne_of_gt X) (L.extBut _ _ (Nat.ne_of_gt X) (VM _ rfl));have P:q.objs.size=g.objs.size+1:=by rw[M.1,L.1,Wb]
 rw[T] at H V P;refine VL ⟨_,rfl,?_⟩;show Q (.ref g.objs.size) _;rw[T];exact k q H (G _ _ d.TOz F) (aa.at λo e=>G _ o d.i1z e) (ac.at λo e=>G _ o d.i2z e) V P λc o j B I J e=>G c o j (ar c o j B I J e)
def TV{f TI TO r t l H:Addr}{C D:Nat}{xs ys:Array Value}{a b:Value}{Q:Fin->Shared->Prop}(J:A.handled=none)(d:ZipApart f TI TO r t l H)(p:IsZip s.heap f TI TO .none)(ab:IsPair s.heap TI (.ref r) (.ref t))(ac:IsPair s.heap TO a b)
  (Y:s.heap.IsListIter r l C)(aa:s.heap.IsTupleIter t H D)(ae:s.heap.IsList l xs)(af:s.heap.IsTuple H ys)(ad:xs[C]? =none\/ys[D]? =none)
  (k:∀h' e,(∀c o,c≠f->c≠TO->c≠r->c≠t->s.heap.get? c=some o->h'.get? c=some o)->(∃o,h'.get? e=some o/\o.cls=.type "StopIteration")->E (.ref e) {s with heap:=h'}):
  wpAny (model prog w) A (Builtin.«zip.__next__» ⟨[.ref f],[]⟩) Q E s:=by
 show wpAny _ _ (field (.ref f) 2>>=_) _ _ _;refine Vi (WZ p rfl (x:=.bool false) rfl ?_);show wpAny _ _ (field (.ref f) 3>>=_) _ _ _;refine Vi (WZ p rfl (x:=.ref TI) rfl (Vi (WB ab rfl ?_)));show wpAny _ _ (Builtin.SmallTypes.ownedTupleIsFree (.ref f)>>=_) _ _ _;refine Vi ?_;unfold Builtin.SmallTypes.ownedTupleIsFree;refine Vi (WZ p rfl (x:=.none) rfl (VL ?_));simp only[WF];refine Vi (wpAny_rule (Vi (WZ p rfl (x:=.ref TO) rfl ?_)));refine Vi (Xl p (by simp) λV u i=>Vi ?_);replace u:IsZip V f TI TO .ellipsis:=u;simp only[List.zipIdx_cons,List.zipIdx_nil,List.forIn_cons,List.forIn_nil];refine Vi (Vi (wpAny_onRaise ?_));show wpAny _ _ (Builtin.SmallTypes.nextOf (.ref r)>>=_) _ _ _;have N:=Y.extBut i.extBut d.i1z;have O:=ae.extBut i.extBut d.l1z;cases B:xs[C]? with
 |none=>
  refine Vi (wpAny_nextOf_list_end J N O B λy e g z=>?_);obtain⟨G,h,n⟩:=z;have P:IsZip y f TI TO .ellipsis:=g _ _ d.i1z.symm u;have F:e≠f:=λq=>by subst q;rw[P] at h;cases h;simp at n
  exact Xl P (by simp) λI _ j=>k I e (λc o m _ v _ q=>j.extBut _ _ m (g _ _ v (i.extBut _ _ m q))) ⟨G,j.extBut _ _ F h,n⟩
 |some x=>
  have ag:ys[D]? =none:=by
   rcases ad with q|q
   ·rw[B] at q;cases q
   ·exact q
  refine Vi (wpAny_nextOf_list_item N O B λy aj g=>VL ?_);have K:IsPair y TO a b:=g.extBut _ _ d.TOi1 (i.extBut _ _ d.TOz ac);refine Vi (WB K rfl (Vi (wpAny_updateSeq_pair K λI ak j=>Vi (wpAny_letGo (VL ?_)))));refine Vi (Vi (wpAny_onRaise ?_));show wpAny _ _ (Builtin.SmallTypes.nextOf (.ref t)>>=_) _ _ _;have ah:=((aa.extBut i.extBut d.i2z).extBut g.extBut d.i12.symm).extBut j.extBut d.TOi2.symm;have ai:=((af.extBut i.extBut d.l2z).extBut g.extBut d.l2i1).extBut j.extBut d.l2TO;refine Vi (MB J ah ai ag λW e L z=>?_);obtain⟨G,h,n⟩:=z;have R:IsZip W f TI TO .ellipsis:=L _ _ d.i2z.symm (j.extBut _ _ d.TOz.symm (g.extBut _ _ d.i1z.symm u));have F:e≠f:=λq=>by subst q;rw[R] at h;cases h;simp at n
  exact Xl R (by simp) λX _ M=>k X e (λc o m S v T q=>M.extBut _ _ m (L _ _ T (j.extBut _ _ S (g.extBut _ _ v (i.extBut _ _ m q))))) ⟨G,M.extBut _ _ F h,n⟩
def OP{d TI TO e f l g:Addr}{h i:Nat}{xs ys:Array Value}{x y a b:Value}{Q:jN->Shared->Prop}(m:ZipApart d TI TO e f l g)(j:IsZip s.heap d TI TO .none)(C:IsPair s.heap TI (.ref e) (.ref f))(D:IsPair s.heap TO a b)
  (z:s.heap.IsListIter e l h)(B:s.heap.IsTupleIter f g i)(G:s.heap.IsList l xs)(H:s.heap.IsTuple g ys)(I:xs[h]? =some x)(J:ys[i]? =some y)
  (k:∀h',IsZip h' d TI TO (rawInt s.heap.objs.size)->IsPair h' TO x y->h'.IsListIter e l (h+1)->h'.IsTupleIter f g (i+1)->IsPair h' s.heap.objs.size x y->h'.objs.size=s.heap.objs.size+1->(∀c o,c≠d->c≠TO->c≠e->c≠f->s.heap.get? c=some o->h'.get? c=some o)->Q (some (.ref s.heap.objs.size)) {s with heap:=h'}):
  wpAny (model prog w) A (pyNext (.ref d)) Q E s:=by
 have ty:s.TypeIs (.ref d) "zip":=⟨_,j,rfl⟩
 unfold pyNext;exact Vi (wpAny_attempt (wpAny_callSpecial?_slot (name:=Str.ofString "__next__") ty F.slot_zip_next (wpAny_call_entry F.slot_zip_next ty F.entry_zip_next (TW m j C D z B G H I J λh' n p q r t u v=>VL (k h' n p q r t u v)) (F.args_zip_next_1 _))))
def OO{d TI TO f g l h:Addr}{j m:Nat}{xs ys:Array Value}{a b:Value}{Q:jN->Shared->Prop}(x:A.handled=none)(n:ZipApart d TI TO f g l h)(i:IsZip s.heap d TI TO .none)(r:IsPair s.heap TI (.ref f) (.ref g))(t:IsPair s.heap TO a b)
  (p:s.heap.IsListIter f l j)(q:s.heap.IsTupleIter g h m)(z:s.heap.IsList l xs)(C:s.heap.IsTuple h ys)(v:xs[j]? =none\/ys[m]? =none)
  (k:∀h',(∀c o,c≠d->c≠TO->c≠f->c≠g->s.heap.get? c=some o->h'.get? c=some o)->Q none {s with heap:=h'}):wpAny (model prog w) A (pyNext (.ref d)) Q E s:=by
 have ty:s.TypeIs (.ref d) "zip":=⟨_,i,rfl⟩
 unfold pyNext;refine Vi (wpAny_attempt (wpAny_callSpecial?_slot (name:=Str.ofString "__next__") ty F.slot_zip_next (wpAny_call_entry F.slot_zip_next ty F.entry_zip_next (TV x n i r t p q z C v λh' e y ⟨o,B,u⟩=>?_) (F.args_zip_next_1 _))));exact Vi (wpAny_isInstance (T:="StopIteration") (b:=true) ⟨o,B,u⟩ isSubtype_stop (VL (k _ y)))
end
abbrev tH(h:Heap)(l:Addr):Heap:=h.push {cls:=.type "list_iterator",data:=.fields #[.ref l,.int 0 0]}
abbrev wY(h:Heap)(l a:Addr):Heap:=(tH h l).push {cls:=.type "tuple_iterator",data:=.fields #[.ref a,.int 0 0]}
abbrev wZ(h:Heap)(l a:Addr):Heap:=(wY h l a).push {cls:=.type "tuple",data:=.seq #[.ref h.objs.size,.ref (tH h l).objs.size]}
abbrev w_(h:Heap)(l a:Addr):Heap:=(wZ h l a).push {cls:=.type "tuple",data:=.seq #[.none,.none]}
abbrev oa(h:Heap)(l a:Addr):Heap:=(w_ h l a).push {cls:=.type "zip",data:=.fields #[.none,.bool false,.bool false,.ref (wY h l a).objs.size,.ref (wZ h l a).objs.size]}
def ON(l a:Addr)(xs ys:Array Value):Meets (Builtin.«zip.__new__» ⟨[.type "zip",.ref l,.ref a],[]⟩) (λ_ R s=>s.heap.IsList l xs/\s.heap.IsTuple a ys/\R (.ok (.ret (.ref (w_ s.heap l a).objs.size))) {s with heap:=oa s.heap l a}):=
 .of_wp λprog w A R s h=>by
  obtain⟨c,b,d,tk,e⟩:=s;obtain⟨f,g,h⟩:=h;have k:=sub_zip;have i:Heap.IsList (Shared.heap ⟨c,b,d,tk,e⟩) l xs:=f;have j:Heap.IsTuple (Shared.heap ⟨c.push {cls:=.type "list_iterator",data:=.fields #[.ref l,.int 0 0]},b,d,tk,e⟩) a ys:=Heap.IsTuple.push g _
  wp_walk using wpAny_pyIter_list i,wpAny_pyIter_tuple j
  exact⟨_,rfl,h⟩
section
variable{prog:Program}{w:World}{A:Around}{E:ci}{s:Shared}
def Kn{l a:Addr}{xs ys:Array Value}{Q:ci}(p:s.heap.IsList l xs)(r:s.heap.IsTuple a ys)
  (k:∀h',IsZip h' (s.heap.objs.size+4) (s.heap.objs.size+2) (s.heap.objs.size+3) .none->IsPair h' (s.heap.objs.size+2) (.ref s.heap.objs.size) (.ref (s.heap.objs.size+1))->IsPair h' (s.heap.objs.size+3) .none .none->
   h'.IsListIter s.heap.objs.size l 0->h'.IsTupleIter (s.heap.objs.size+1) a 0->h'.objs.size=s.heap.objs.size+5->(∀c o,s.heap.get? c=some o->h'.get? c=some o)->Q (.ref (s.heap.objs.size+4)) {s with heap:=h'}):
  wpAny (model prog w) A (call (.type "zip") [.ref l,.ref a]) Q E s:=by
 refine callType_new F.called_zip ∅ (F.typeCall_zip_2 _ _) (F.newCall_zip_2 _ _) (λt=>F.args_object_init_3 t _ _) F.entry_zip_new (ON l a xs ys) ⟨p,r,?_⟩;have d:(tH s.heap l).objs.size=s.heap.objs.size+1:=Wb ..;have e:(wY s.heap l a).objs.size=s.heap.objs.size+2:=by rw[Wb,d]
 have f:(wZ s.heap l a).objs.size=s.heap.objs.size+3:=by rw[Wb,e]
 have g:(w_ s.heap l a).objs.size=s.heap.objs.size+4:=by rw[Wb,f]
 have u:(oa s.heap l a).objs.size=s.heap.objs.size+5:=by rw[Wb,g]
 have m:∀c o,(tH s.heap l).get? c=some o->(oa s.heap l a).get? c=some o:=λc o q=>Vk _ (Vk _ (Vk _ (Vk _ q)));have b:(oa s.heap l a).get? (w_ s.heap l a).objs.size=some _:=VM _ rfl;have j:(oa s.heap l a).get? (wZ s.heap l a).objs.size=some _:=Vk _ (VM _ rfl);have i:(oa s.heap l a).get? (wY s.heap l a).objs.size=some _:=Vk _ (Vk _ (VM _ rfl));have h:(oa s.heap l a).get? (tH s.heap l).objs.size=some _:=Vk _ (Vk _ (Vk _ (VM _ rfl)));have n:(oa s.heap l a).get? s.heap.objs.size=some _:=m _ _ (VM _ rfl);show _/\_;rw[e,f,g] at b;rw[d,e] at i;rw[f] at j;rw[d] at h;rw[g];exact⟨⟨_,b,rfl⟩,k _ b i j ⟨_,n,rfl,rfl⟩ ⟨_,h,rfl,rfl⟩ u λc o q=>m c o (Vk _ q)⟩
end
def tM(K:Frag)(a b:Addr):It:=
 ⟨λi H=>∃(xs ys:aQ)(x y:V),aT K H a xs/\bi K H b ys/\xs[i]? =some x/\ys[i]? =some y,λi H v c=>∃T x y,v=.ref T/\H T=none/\c=ai H T (.aN [x,y])/\(∀xs,aT K H a xs->xs[i]? =some x)/\∀ys,bi K H b ys->ys[i]? =some y,
  λi H=>∃xs ys:aQ,aT K H a xs/\bi K H b ys/\(xs.length<=i\/ys.length<=i)⟩
def Tj{P:Program}{w:World}{K:Frag}{elts:en}{kk:Nat}{gP:Pos}{a b z TI TO i1 i2:Addr}(D:ZipApart z TI TO i1 i2 a b):
  mf P w K (.Tuple elts kk gP) (tM K a b) [z,TI,TO,i1,i2] z (λi h=>IsZip h z TI TO .none/\IsPair h TI (.ref i1) (.ref i2)/\(∃x y,IsPair h TO x y)/\h.IsListIter i1 a i/\h.IsTupleIter i2 b i) where
 mem:=by simp
 obj:=λi h st c hc=>by
  obtain⟨hz,hTI,⟨x,y,hTO⟩,⟨o1,e1,_,d1⟩,⟨o2,e2,_,d2⟩⟩:=st;rcases(by simpa using hc:c=z\/c=TI\/c=TO\/c=i1\/c=i2) with rfl|rfl|rfl|rfl|rfl
  ·exact⟨_,hz,λv q=>nomatch q⟩
  ·exact⟨_,hTI,λv q=>nomatch q⟩
  ·exact⟨_,hTO,λv q=>nomatch q⟩
  ·exact⟨o1,e1,λv q=>by rw[d1] at q;cases q⟩
  ·exact⟨o2,e2,λv q=>by rw[d2] at q;cases q⟩
 keep:=λi h h' st k=>by obtain⟨hz,hTI,⟨x,y,hTO⟩,h1,h2⟩:=st;exact⟨k z (by simp) _ hz,k TI (by simp) _ hTI,⟨x,y,k TO (by simp) _ hTO⟩,h1.at λo q=>k i1 (by simp) o q,h2.at λo q=>k i2 (by simp) o q⟩
 item:=by
  intro X hP hw hK hc i aa s U H E I hf st hg;subst hP hw hK;obtain⟨hz,hTI,⟨x0,y0,hTO⟩,h1,h2⟩:=st;obtain⟨xs,ys,x,y,hqx,hqy,hx,hy⟩:=hg;obtain⟨its,rv,p,_⟩:=I.list hqx;obtain⟨its2,rv2,p2,_⟩:=I.tuple hqy;obtain⟨u,hu,ru⟩:=rv.get hx;obtain⟨u2,hu2,ru2⟩:=rv2.get hy;have zl:z<s.heap.objs.size:=VD hz;refine OP D hz hTI hTO h1 h2 p.isList (show s.heap.IsTuple b its2.toArray from p2) (x:=u) (y:=u2) (by simpa using hu) (by simpa using hu2) λh' z' TO' h1' h2' hT hsz hk=>?_;refine⟨_,rfl,wpAny_letOwnedTupleGo_zip (s:={s with heap:=h'}) z' λh'' z'' sb=>?_⟩;have hT2:h''.get? s.heap.objs.size=some {cls:=.type "tuple",data:=.seq #[u,u2]}:=(sb.2 _ (Nat.ne_of_gt zl)).trans hT;have new:ed X.prog X.w (ai H s.heap.objs.size (.aN [x,y])) h'' s.heap.objs.size (.aN [x,y]):=⟨by show 2<=sizeLine;decide,[u,u2],.cons ru (.cons ru2 .nil),⟨_,hT2,rfl,_,rfl⟩⟩
  have far:∀c o,c∉[z,TI,TO,i1,i2]->s.heap.get? c=some o->h''.get? c=some o:=λc o hb q=>(sb.2 c (λq'=>hb (by simp[q']))).trans (hk c o (λq'=>hb (by simp[q'])) (λq'=>hb (by simp[q'])) (λq'=>hb (by simp[q'])) (λq'=>hb (by simp[q'])) q);have I1:Inv X aa U (ai H s.heap.objs.size (.aN [x,y])) {s with heap:=h''}:=I.AM (t':=s.toks) (ch:=[z,TI,TO,i1,i2]) far hf (Vm _) new;refine⟨.ref s.heap.objs.size,_,I1,rfl,⟨_,x,y,rfl,I.aK.dP (Vm _),rfl,λl hl=>by rw[I.sk hl hqx];exact hx,λl hl=>by rw[I.Jf hl hqy];exact hy⟩,⟨z'',?_,⟨u,u2,?_⟩,?_,?_⟩,λc hcm=>?_⟩
  ·exact(sb.2 _ D.TIz).trans (hk _ _ D.TIz D.TITO D.TIi1 D.TIi2 hTI)
  ·exact(sb.2 _ D.TOz).trans TO'
  ·exact h1'.at λo q=>(sb.2 _ D.i1z).trans q
  ·exact h2'.at λo q=>(sb.2 _ D.i2z).trans q
  ·have lt:c<s.heap.objs.size:=by
    rcases(by simpa using hcm:c=z\/c=TI\/c=TO\/c=i1\/c=i2) with rfl|rfl|rfl|rfl|rfl
    ·exact zl
    ·exact VD hTI
    ·exact VD hTO
    ·obtain⟨_,e1,_⟩:=h1;exact VD e1
    ·obtain⟨_,e2,_⟩:=h2;exact VD e2
   rw[bA (Wc lt)];exact(hf c hcm).1
 done:=by
  intro X hP hw hK hc i aa s U H E I hf st hg;subst hP hw hK;obtain⟨hz,hTI,⟨x0,y0,hTO⟩,h1,h2⟩:=st;obtain⟨xs,ys,hqx,hqy,hend⟩:=hg;obtain⟨its,rv,p,_⟩:=I.list hqx;obtain⟨its2,rv2,p2,_⟩:=I.tuple hqy;have l1:=rv.length;have l2:=rv2.length;have he:its.toArray[i]? =none\/its2.toArray[i]? =none:=by rcases hend with q|q;exact .inl (by simp;lia);exact .inr (by simp;lia)
  refine OO (I.ok.hd hc) D hz hTI hTO h1 h2 p.isList (show s.heap.IsTuple b its2.toArray from p2) he λh' hk=>⟨rfl,I.Jg (t':=s.toks) (ch:=[z,TI,TO,i1,i2]) (λc o hb q=>?_) hf⟩
  exact hk c o (λq'=>hb (by simp[q'])) (λq'=>hb (by simp[q'])) (λq'=>hb (by simp[q'])) (λq'=>hb (by simp[q'])) q
 lU:=λA i s Q E st h=>wpAny_pyIter_zip st.1 h
def Dl(K:Frag)(d:TA):TI:=λe H R=>d e H λvs c=>∃a b xs ys,vs=[.ref a,.ref b]/\aT K c a xs/\bi K c b ys/\R (tM K a b) c
def JF{n:Nat}{a b:Addr}(c:a<n)(d:b<n):ZipApart (n+4) (n+2) (n+3) n (n+1) a b:=by constructor<;>(intro q;simp only[Addr] at*;lia)
def E3{X:Cx}{K:Frag}{e g:Expr}{v:TA}{p j Y:Pos}{y:en}{S:Nat}(I:Gl X "zip")(L:X.mg "zip"=none)(F:PA X [e,g] v)
  (P:starEach [e,g] X.ag=(false,eval e X.ag)::starEach [g] X.ag:=by rfl)(M:(backTo j (starEach [g] X.ag)).any (·.1)=false:=by rfl)(C:X.K=K:=by rfl):
  PI X (.Tuple y S Y) (.Call (.Name "zip" p) [e,g] [] j) (Dl K v):=by
 subst C;intro aa s w H R l h;refine Call_ (mL l I L BA (Wv (bu (F j aa s w H _ l h) λus d ⟨vs,k,f,W,a,b,xs,ys,z,N,O,q⟩=>?_) P M));subst z;cases W with
 |cons r rr=>
  cases rr with
  |cons r' rr=>
   cases rr;cases r;cases r';obtain⟨ab,ac,t,_⟩:=f.list N;obtain⟨Q,ad,V,_⟩:=f.tuple O;have u:d.heap.IsTuple b Q.toArray:=V;have T:b<d.heap.objs.size:=by obtain⟨o,e,_⟩:=u;exact VD e
   refine Kn t.isList u λh' m D E A B hsz J=>wpAny_pyIter_zip m ?_;have x:Inv X aa w k {d with heap:=h'}:=f.kept (t':=d.toks) J;refine⟨d.heap.objs.size+4,[d.heap.objs.size+4,d.heap.objs.size+2,d.heap.objs.size+3,d.heap.objs.size,d.heap.objs.size+1],_,_,k,rfl,x,Tj (JF t.lt T),⟨m,D,⟨_,_,E⟩,A,B⟩,λc G=>?_,q⟩;have n:d.heap.objs.size<=c:=by rcases(by simpa using G:c=d.heap.objs.size+4\/c=d.heap.objs.size+2\/c=d.heap.objs.size+3\/c=d.heap.objs.size\/c=d.heap.objs.size+1) with i|i|i|i|i<;>(rw[i];first|exact Xh _ _|exact Vm _)
   exact f.np n (f.aK.dP n)
def Rf(K:Frag):V->aQ->Hp->VK->Prop:=λx vs H Q=>∃l b xs a,x=.ref l/\vs=[.ref b]/\H l=some (.aq xs)/\bi K H b a/\xs.length+a.length<=sizeLine/\Q .aO (ai H l (.aq (xs++a)))
def OG{X:Cx}{K:Frag}(w:X.K=K:=by rfl):xg X "list.extend" (Rf K):=by
 subst w;intro aa s O H x vs v us Q d C B h;obtain⟨l,b,xs,G,rfl,rfl,g,t,J,q⟩:=h;cases C;obtain⟨u,rfl,A⟩:=B.one;cases A;obtain⟨N,a,n,r,I,e⟩:=d.qc g;obtain⟨c,j,⟨o,i,y,M,z⟩,_⟩:=d.tuple t;have L:=j.length;have D:¬(!a.toArray.isEmpty&&Builtin.List.listTooLong (a.toArray.size+c.toArray.size))=true:=by rw[Em (by rw[VA,VA];lia),Bool.and_false];exact VG
 have m:a.toArray.size<=sizeLine:=by rw[VA];lia
 have p:(a.toArray++c.toArray).size<=sizeLine+1:=by rw[Array.size_append,VA,VA];lia
 refine wpAny_call_entry F.slot_list_extend ⟨_,e,rfl⟩ F.entry_list_extend ?_ (F.args_list_extend_2 _ _);show wpAny _ _ (Builtin.List.listExtendWith (.ref l) (.ref b) .none) _ _ s;unfold Builtin.List.listExtendWith;refine Vi (wpAny_typeOf ⟨o,i,y⟩ ?_);have E:(Builtin.List.listSameRef (.ref l) (.ref b)||Value.type "tuple"==Value.type "list"||Value.type "tuple"==Value.type "tuple")=true:=by simp
 simp only[E,WF];unfold Builtin.List.listItems;refine Vi (Vi (WB i z (VL (Vi (Vi (WB e rfl (VL ?_)))))));simp only[D,W5];refine Vi (wpAny_updateSeq e rfl ?_ m p);have k:=d.yR (jc:=a++c) (ys:=xs++G) (t':=s.toks) g e (f:=(· ++c.toArray)) (by simp) (r.append j) (by rw[Vw];lia);exact VL ⟨_,rfl,.aO,_,k,rfl,q⟩
def QN{X:Cx}{K:Frag}{c l:Expr}{a:TE}(b:PE X l a)(h:X.K=K:=by rfl):PI X c l (yr K a):=by subst h;exact QM b
section
variable{X:Cx}{e e2 e3 e4 e5:Expr}{t1 t2 t3 t4 t5:TE}{p pos:Pos}
def px(K:Frag)(a:PE X e t1)(b:PE X e2 t2)(c:A7 e2:=by exact λ_ _=>rfl)(h:X.K=K:=by rfl):PE X (.Subscript e e2 pos) (gu (iC K) t1 t2):=Qz (NK h) a b c
def a9(a:PE X e t1)(h:starEach [e] X.ag=(false,eval e X.ag)::starEach [] X.ag:=by rfl):PA X [e] (dD t1 eU):=f9 a j1 h
def aV(a:PE X e t1)(b:PE X e2 t2)(h:starEach [e,e2] X.ag=(false,eval e X.ag)::starEach [e2] X.ag:=by rfl)(c:starEach [e2] X.ag=(false,eval e2 X.ag)::starEach [] X.ag:=by rfl):PA X [e,e2] (dD t1 (dD t2 eU)):=f9 a (a9 b c) h
def bZ(a:PE X e t1)(b:PE X e2 t2)(c:PE X e3 t3)(h:starEach [e,e2,e3] X.ag=(false,eval e X.ag)::starEach [e2,e3] X.ag:=by rfl)(d:starEach [e2,e3] X.ag=(false,eval e2 X.ag)::starEach [e3] X.ag:=by rfl)
  (f:starEach [e3] X.ag=(false,eval e3 X.ag)::starEach [] X.ag:=by rfl):PA X [e,e2,e3] (dD t1 (dD t2 (dD t3 eU))):=f9 a (aV b c d f) h
def bg{op:CmpOp}{r:R2}(d:ee X (compareOp op) r)(a:PE X e t1)(b:PE X e2 t2)(c:behindInMarks op e2=false:=by exact El _):PT X (.Compare e [op] [e2] pos) (ph (gu r t1 t2)):=vV d a b c
def ff{op:CmpOp}{r:R2}(d:ee X (compareOp op) r)(a:PE X e t1)(b:PE X e2 t2)(c:behindInMarks op e2=false:=by exact El _):PE X (.Compare e [op] [e2] pos) (gu r t1 t2):=oR d a b c
def bo(i:Nat){x:Str}{a:Pos}(b:X.N.Nodup)(c:PE X e t1)(f:X.N[i]? =some x:=by rfl)(h:ol X.ag.scope x:=by first|exact Or.inl rfl|exact Or.inr rfl)(g:swapsWith e (some (.Name x a)) pos.line X.ag=pure false:=by rfl)
  (d:X.fn x=true\/X.ag.scope.names.lookup x=some .local:=by first|exact .inl rfl|exact .inr rfl|assumption):PS X (.Assign [.Name x a] e pos) (qD t1 (dA i)):=Rb b f h c g d
def bU(i:Nat){x:Str}(a:X.N.Nodup)(c:X.N[i]? =some x:=by rfl)(d:ol X.ag.scope x:=by first|exact Or.inl rfl|exact Or.inr rfl)(b:X.fn x=true\/X.ag.scope.names.lookup x=some .local:=by first|exact .inl rfl|exact .inr rfl|assumption):PG X (.Name x pos) (dA i):=QH a c d b
def eE(K:Frag)(d:X.mg "len"=none)(b:PE X e t1)(c:Gl X "len":=by rfl)(h:X.K=K:=by rfl)(a:starEach [e] X.ag=(false,eval e X.ag)::starEach [] X.ag:=by rfl)
  (f:(backTo pos (starEach [] X.ag)).any (·.1)=false:=by rfl):PE X (.Call (.Name "len" p) [e] [] pos) (qE (qj K) (dD t1 eU)):=sL (Kr h) c d JW (f9 b j1 a) ∅ ∅ a f
def lQ(K:Frag){b a:Pos}(j:PE X e t1)(f:PE X e2 t2)(g:attributeBase e "append" X.ag (eval e X.ag)=eval e X.ag:=by rfl)
  (h:((backTo a (starEach [e2] X.ag)).all (λx=> !x.1)&&(backToKw a (keywordEach [] X.ag)).all (λx=>x.1.isSome)
   &&decide ([e2].length+([]:List Keyword).length+(if ([]:List Keyword).isEmpty then 0 else 1)<30))=true:=by rfl)
  (i:(b.endLine==a.line)=true:=by rfl)(c:starEach [e2] X.ag=(false,eval e2 X.ag)::starEach [] X.ag:=by rfl)(k:(backTo a (starEach [] X.ag)).any (·.1)=false:=by rfl)(d:X.K=K:=by rfl):
  PE X (.Call (.Attribute e "append" b) [e2] [] a) (wK K "list" zF t1 (dD t2 eU)):=sK Xa PySem.F.slot_list_append PySem.F.type_list_append OF j (f9 f j1 c) g h i c k d
end
local macro_rules| `(tactic|walk_at "sc")=> `(tactic|exact⟨rfl,rfl,rfl,by decide+kernel,rfl,by decide+kernel,by decide+kernel⟩)
noncomputable def aX(i:Nat):Stmt:=PySem.Challenge.pw_networktime_s01_answers.main.body.getD i (.Pass ⟨0,0,0,0⟩)
abbrev Gz:Stmt:=aX 15
def R9:bd ["kind"] ["kind"] (aM Gz):=by walk_at "sc"
abbrev Gy:Stmt:=aX 16
def R8:bd ["kind"] ["kind"] (aM Gy):=by walk_at "sc"
abbrev Gx:Stmt:=aX 17
def R7:bd ["kind"] ["kind"] (aM Gx):=by walk_at "sc"
abbrev GF:Stmt:=aX 18
def Hx:bd ["kind"] ["kind"] (aM GF):=by walk_at "sc"
abbrev Hj:Stmt:=aX 19
def Sk:bd ["kind"] ["kind"] (aM Hj):=by walk_at "sc"
abbrev Gu:Stmt:=aX 20
def R4:bd ["kind"] ["kind"] (aM Gu):=by walk_at "sc"
abbrev Gr:Stmt:=aX 24
def qr:bd ["x","y","one","other","rest"] ["x","y"] (aM Gr):=by walk_at "sc"
abbrev GO:Stmt:=aX 25
def Hz:bd ["x","divisor"] ["x"] (aM GO):=by walk_at "sc"
abbrev GZ:Stmt:=aX 26
def Sg:bd ["x","y"] ["x","y"] (aM GZ):=by walk_at "sc"
abbrev GR:Stmt:=aX 27
def Sc:bd ["x","y"] ["x","y"] (aM GR):=by walk_at "sc"
abbrev GU:Stmt:=aX 28
def Sd:bd ["x"] ["x"] (aM GU):=by walk_at "sc"
abbrev Ha:Stmt:=aX 29
def Sh:bd ["x","y"] ["x","y"] (aM Ha):=by walk_at "sc"
abbrev Hc:Stmt:=aX 30
def Sj:bd ["x","y"] ["x","y"] (aM Hc):=by walk_at "sc"
abbrev Gh:Stmt:=aX 31
def RV:bd ["x","y"] ["x","y"] (aM Gh):=by walk_at "sc"
abbrev Hi:Stmt:=aX 32
def wy:bd ["numbers","scale","x"] ["numbers"] (aM Hi):=by walk_at "sc"
abbrev Aa:Stmt:=aX 33
def Aq:bd ["numbers","scale","x"] ["numbers","scale"] (aM Aa):=by walk_at "sc"
abbrev Hh:Stmt:=aX 34
def sW:bd ["x","fineness","top","multiple","rest"] ["x","fineness"] (aM Hh):=by walk_at "sc"
abbrev G_:Stmt:=aX 35
def wx:bd ["exponent","power","k"] ["exponent"] (aM G_):=by walk_at "sc"
abbrev Gw:Stmt:=aX 40
def Aj:bd ["nodes","parts","k","fault"] ["nodes","parts"] (aM Gw):=by walk_at "sc"
abbrev GX:Stmt:=aX 41
def HG:bd ["nodes","parts","k","part"] ["nodes","parts","k"] (aM GX):=by walk_at "sc"
abbrev GW:Stmt:=aX 42
def Sf:bd ["part"] ["part"] (aM GW):=by walk_at "sc"
abbrev GQ:Stmt:=aX 43
def HD:bd ["part","top"] ["part"] (aM GQ):=by walk_at "sc"
abbrev Hd:Stmt:=aX 44
def HI:bd ["parts","k","part"] ["parts","k"] (aM Hd):=by walk_at "sc"
abbrev GA:Stmt:=aX 45
def R_:bd ["parts","x","k"] ["parts","x","k"] (aM GA):=by walk_at "sc"
abbrev GH:Stmt:=aX 46
def Ak:bd ["parts","k","part","other"] ["parts","k"] (aM GH):=by walk_at "sc"
abbrev zY:Stmt:=aX 48
def oV:bd ["laws","rows","k","law","scale","right","other"] ["laws"] (aM zY):=by walk_at "sc"
abbrev Ac:Stmt:=aX 49
def nS:bd ["rows","solved","k","pivot","lead","x","other"] ["rows"] (aM Ac):=by walk_at "sc"
abbrev GY:Stmt:=aX 50
def HH:bd ["rows","k","place"] ["rows","k"] (aM GY):=by walk_at "sc"
abbrev zW:Stmt:=aX 51
def qp:bd ["row","lead","k","own","factor","x","y"] ["row","lead","k"] (aM zW):=by walk_at "sc"
abbrev Ab:Stmt:=aX 52
def qv:bd ["row","divisor","x"] ["row"] (aM Ab):=by walk_at "sc"
abbrev Ad:Stmt:=aX 53
def lv:bd ["solved","right","count","scale","tops","found","k","row","top","x","y"] ["solved","right"] (aM Ad):=by walk_at "sc"
abbrev FZ:Stmt:=fZ (aX 61) 0
def RH:bd ["self","row"] ["self","row"] (aM FZ):=by walk_at "sc"
abbrev we:Stmt:=fZ (aX 62) 0
def qo:bd ["self","nodes","parts","waves","part","k"] ["self","nodes","parts","waves"] (aM we):=by walk_at "sc"
abbrev FY:Stmt:=fZ (aX 62) 1
def RG:bd ["self","k"] ["self","k"] (aM FY):=by walk_at "sc"
abbrev GN:Stmt:=aX 63
def Am:bd ["parts","k","links","part"] ["parts","k"] (aM GN):=by walk_at "sc"
abbrev z_:Stmt:=aX 64
def Ap:bd ["net","at"] ["net"] (aM z_):=by walk_at "sc"
abbrev GG:Stmt:=aX 65
def wu:bd ["net","diodes","at"] ["net"] (aM GG):=by walk_at "sc"
abbrev GJ:Stmt:=aX 66
def Hy:bd ["row","place"] ["row"] (aM GJ):=by walk_at "sc"
abbrev GI:Stmt:=aX 67
def R':bd ["top","bottom"] ["top","bottom"] (aM GI):=by walk_at "sc"
abbrev Gg:Stmt:=fZ (aX 72) 0
def RU:bd ["self","period","moments","levels","length"] ["self","period","moments","levels","length"] (aM Gg):=by walk_at "sc"
abbrev Hn:Stmt:=aX 73
def qw:bd ["parts","row","waves","at","part","wave"] ["parts","row"] (aM Hn):=by walk_at "sc"
abbrev z0:Stmt:=aX 74
def Al:bd ["waves","wave"] ["waves"] (aM z0):=by walk_at "sc"
abbrev sT:Stmt:=aX 75
def lx:bd ["row","at","length","numbers","k","x","period","moments","levels"] ["row","at"] (aM sT):=by walk_at "sc"
abbrev Hg:Stmt:=aX 76
def HJ:bd ["moments","k"] ["moments"] (aM Hg):=by walk_at "sc"
abbrev GP:Stmt:=aX 77
def Sb:bd ["period","last"] ["period","last"] (aM GP):=by walk_at "sc"
abbrev Hk:Stmt:=aX 78
def Ar:bd ["wave","time","moment","k"] ["wave","time"] (aM Hk):=by walk_at "sc"
abbrev GS:Stmt:=aX 79
def HE:bd ["period","time","periods"] ["period","time"] (aM GS):=by walk_at "sc"
abbrev Hl:Stmt:=aX 80
def wA:bd ["wave","k","moment","run","rise","gone"] ["wave","k","moment"] (aM Hl):=by walk_at "sc"
abbrev FX:Stmt:=fZ (aX 82) 0
def RE:bd ["self","states","found"] ["self","states","found"] (aM FX):=by walk_at "sc"
abbrev FW:Stmt:=fZ (aX 83) 0
def RC:bd ["self","network","rule","pace"] ["self","network","rule","pace"] (aM FW):=by walk_at "sc"
abbrev zV:Stmt:=fZ (aX 83) 1
def RD:bd ["self","states"] ["self","states"] (aM zV):=by walk_at "sc"
abbrev FV:Stmt:=fZ (aX 83) 2
def wg:bd ["self","rows","time","kept","states","solved","found"] ["self","rows","time","kept"] (aM FV):=by walk_at "sc"
abbrev wf:Stmt:=aX 84
def nR:bd ["count","rows","k","row"] ["count"] (aM wf):=by walk_at "sc"
abbrev GV:Stmt:=aX 85
def Se:bd ["found","node"] ["found","node"] (aM GV):=by walk_at "sc"
abbrev Hm:Stmt:=aX 86
def HK:bd ["network","found","k","part"] ["network","found","k"] (aM Hm):=by walk_at "sc"
abbrev Gs:Stmt:=aX 87
def RZ:bd ["network","found","k"] ["network","found","k"] (aM Gs):=by walk_at "sc"
abbrev Gv:Stmt:=aX 88
def Ah:bd ["network","states","found","k","state"] ["network","states","found"] (aM Gv):=by walk_at "sc"
abbrev Hf:Stmt:=aX 89
def oW:bd ["laws","states","time","kept","network","right","k","part","state"] ["laws","states","time","kept"] (aM Hf):=by walk_at "sc"
abbrev He:Stmt:=aX 90
def mS:bd ["laws","k","kept","part","total","other","x","q"] ["laws","k","kept"] (aM He):=by walk_at "sc"
abbrev zZ:Stmt:=aX 91
def qu:bd ["network","pace","states","rows","law","k","part","spot"] ["network","pace","states"] (aM zZ):=by walk_at "sc"
abbrev zX:Stmt:=aX 92
def Ai:bd ["network","k"] ["network"] (aM zX):=by walk_at "sc"
abbrev Gi:Stmt:=aX 93
def RW:bd ["row","spot","amount"] ["row","spot","amount"] (aM Gi):=by walk_at "sc"
abbrev Gn:Stmt:=aX 94
def RY:bd ["row","a","b","amount"] ["row","a","b","amount"] (aM Gn):=by walk_at "sc"
abbrev Gj:Stmt:=aX 95
def RX:bd ["rows","spot","a","b"] ["rows","spot","a","b"] (aM Gj):=by walk_at "sc"
abbrev Gm:Stmt:=aX 96
def Hu:bd ["row","network","k","states","part"] ["row","network","k","states"] (aM Gm):=by walk_at "sc"
abbrev GD:Stmt:=aX 97
def Hv:bd ["network","k","states","part"] ["network","k","states"] (aM GD):=by walk_at "sc"
abbrev Gk:Stmt:=aX 98
def sU:bd ["row","network","k","pace","part","less","x","q"] ["row","network","k","pace"] (aM Gk):=by walk_at "sc"
abbrev Hb:Stmt:=aX 104
def Si:bd ["network","found","what","k"] ["network","found","what","k"] (aM Hb):=by walk_at "sc"
abbrev F8:Stmt:=fZ (aX 110) 0
def RN:bd ["self","network","rule","width","bits","moment"] ["self","network","rule","width","bits","moment"] (aM F8):=by walk_at "sc"
abbrev F9:Stmt:=fZ (aX 110) 1
def RP:bd ["self","steps"] ["self","steps"] (aM F9):=by walk_at "sc"
abbrev F6:Stmt:=fZ (aX 110) 2
def Ae:bd ["self","time","moment"] ["self"] (aM F6):=by walk_at "sc"
abbrev Ga:Stmt:=fZ (aX 111) 0
def RQ:bd ["self"] ["self"] (aM Ga):=by walk_at "sc"
abbrev F_:Stmt:=fZ (aX 111) 1
def wt:bd ["self","net","waves","parts","fault","found"] ["self","net","waves"] (aM F_):=by walk_at "sc"
abbrev Ge:Stmt:=fZ (aX 111) 2
def Hs:bd ["self","rule","hn","hd","bits","moment"] ["self","rule","hn","hd","bits"] (aM Ge):=by walk_at "sc"
abbrev Gf:Stmt:=fZ (aX 111) 3
def Ht:bd ["self","n","made"] ["self","n"] (aM Gf):=by walk_at "sc"
abbrev Gd:Stmt:=fZ (aX 111) 4
def Ag:bd ["self","what","k","told"] ["self","what","k"] (aM Gd):=by walk_at "sc"
abbrev Gb:Stmt:=fZ (aX 111) 5
def RR:bd ["self","k"] ["self","k"] (aM Gb):=by walk_at "sc"
abbrev Gc:Stmt:=fZ (aX 111) 6
def Af:bd ["self","k","told","value"] ["self","k"] (aM Gc):=by walk_at "sc"
abbrev GK:Stmt:=aX 112
def Sa:bd ["hn","hd"] ["hn","hd"] (aM GK):=by walk_at "sc"
abbrev z9:Stmt:=aX 113
def Ao:bd ["network","nothing","part"] ["network"] (aM z9):=by walk_at "sc"
abbrev GL:Stmt:=aX 114
def qt:bd ["network","moment","fineness","kept","k","part","voltage","current"] ["network","moment","fineness"] (aM GL):=by walk_at "sc"
abbrev F2:Stmt:=fZ (aX 123) 0
def RK:bd ["self","numbers"] ["self","numbers"] (aM F2):=by walk_at "sc"
abbrev F0:Stmt:=fZ (aX 123) 1
def RJ:bd ["self"] ["self"] (aM F0):=by walk_at "sc"
abbrev F3:Stmt:=fZ (aX 123) 2
def RM:bd ["self"] ["self"] (aM F3):=by walk_at "sc"
abbrev F5:Stmt:=fZ (aX 123) 3
def Hr:bd ["self","length"] ["self"] (aM F5):=by walk_at "sc"
abbrev Gp:Stmt:=aX 124
def sV:bd ["calls","simulator","reader","told","answer"] ["calls"] (aM Gp):=by walk_at "sc"
abbrev Go:Stmt:=aX 125
def mR:bd ["simulator","reader","call","net","waves","rule","hn","hd","bits","what"] ["simulator","reader"] (aM Go):=by walk_at "sc"
structure bV where
 rf:Addr
 ou:Addr
 dF:Addr
 cA:Addr
 fJ:Addr
 ml:Addr
 gE:Addr
 cG:Addr
 dO:Addr
 TX:Addr
 fj:Addr
structure Tx(P:Program)(K:Frag)(mg:df)(A:bV):Prop where
 tree:P.given.tree=none
 Bp:mg "abs"=none
 eu:mg "len"=none
 hR:mg "range"=none
 rA:mg "enumerate"=none
 uk:mg "zip"=none
 Br:mg "sum"=none
 JO:mg "max"=none
 Bq:mg "list"=none
 BG:cE mg "RESISTOR" (.int 0)
 pN:cE mg "CAPACITOR" (.int 1)
 pO:cE mg "COIL" (.int 2)
 lH:cE mg "MUTUAL" (.int 3)
 Kj:cE mg "VOLTAGE_SOURCE" (.int 4)
 BF:cE mg "CURRENT_SOURCE" (.int 5)
 Ki:cE mg "VOLTAGE_BY_VOLTAGE" (.int 6)
 BE:cE mg "CURRENT_BY_VOLTAGE" (.int 7)
 Kh:cE mg "VOLTAGE_BY_CURRENT" (.int 8)
 BD:cE mg "CURRENT_BY_CURRENT" (.int 9)
 ux:cE mg "TRANSFORMER" (.int 10)
 uv:cE mg "AMPLIFIER" (.int 11)
 BH:cE mg "SWITCH" (.int 12)
 pP:cE mg "DIODE" (.int 13)
 mn:cE mg "NOTHING" (.ref A.rf)
 mF:∀G,RF K G (.ref A.rf) (0,1)
 pQ:cE mg "ONE" (.ref A.ou)
 pZ:∀G,RF K G (.ref A.ou) (1,1)
 Kk:cE mg "WRONG_NODE" (.int 1)
 BI:cE mg "WRONG_NUMBER" (.int 2)
 Kl:cE mg "WRONG_REFERENCE" (.int 3)
 J5:cE mg "NODES_MOST" (.int 8)
 J8:cE mg "PARTS_MOST" (.int 10)
 J1:cE mg "DIODES_MOST" (.int 3)
 pR:cE mg "PART_LENGTH" (.int 7)
 J9:cE mg "PLACE_MOST" (.int 63)
 rC:cE mg "NUMBER_MOST" (.int 1000000)
 J_:cE mg "POINTS_MOST" (.int 8)
 J2:cE mg "HEAD_LENGTH" (.int 3)
 J':cE mg "POINT_LENGTH" (.int 4)
 J6:cE mg "NODE_VOLTAGE" (.int 0)
 J0:cE mg "CURRENT" (.int 1)
 Kg:cE mg "VOLTAGE" (.int 2)
 Ka:cE mg "POWER" (.int 3)
 Kb:cE mg "RULE_MOST" (.int 1)
 JZ:cE mg "BITS_MOST" (.int 64)
 Ke:cE mg "STEPS_MOST" (.int 100)
 Kf:cE mg "TIME" (.int 4)
 JY:cE mg "BEGIN" (.int 1)
 Kc:cE mg "START" (.int 2)
 Kd:cE mg "STEP" (.int 3)
 J7:cE mg "NOW" (.int 4)
 J3:cE mg "IS_ON" (.int 5)
 J4:cE mg "KEPT" (.int 6)
 Om:mg "Part"=some (.ref A.dF)
 kD:dZ K A.dF
 Ea:cq K A.dF "kind"
 D8:cq K A.dF "a"
 D9:cq K A.dF "b"
 D_:cq K A.dF "c"
 D':cq K A.dF "d"
 Eb:cq K A.dF "q"
 K0:Di K A.dF "Part.__init__" FZ ["self","row"]
 Ol:mg "Network"=some (.ref A.cA)
 gJ:dZ K A.cA
 D3:cq K A.cA "nodes"
 D5:cq K A.cA "parts"
 D7:cq K A.cA "waves"
 yZ:cq K A.cA "spots"
 vG:cq K A.cA "size"
 D1:cq K A.cA "diodes"
 D2:cq K A.cA "links"
 KY:Di K A.cA "Network.__init__" we ["self","nodes","parts","waves"]
 KZ:Dm K A.cA "kind_of" "Network.kind_of" FY ["self","k"]
 Oq:mg "Wave"=some (.ref A.fJ)
 ny:dZ K A.fJ
 Ei:cq K A.fJ "period"
 Eh:cq K A.fJ "moments"
 Eg:cq K A.fJ "levels"
 Ef:cq K A.fJ "length"
 Ld:Di K A.fJ "Wave.__init__" Gg ["self","period","moments","levels","length"]
 Oj:mg "Moment"=some (.ref A.ml)
 vc:dZ K A.ml
 D0:cq K A.ml "states"
 DZ:cq K A.ml "found"
 KW:Di K A.ml "Moment.__init__" FX ["self","states","found"]
 DM:mg "Laws"=some (.ref A.gE)
 lc:dZ K A.gE
 DV:cq K A.gE "network"
 DY:cq K A.gE "rule"
 DW:cq K A.gE "pace"
 DX:cq K A.gE "ready"
 KS:Di K A.gE "Laws.__init__" FW ["self","network","rule","pace"]
 KU:Dm K A.gE "solved" "Laws.solved" zV ["self","states"]
 KR:Dm K A.gE "first_moment" "Laws.first_moment" FV ["self","rows","time","kept"]
 Oo:mg "Run"=some (.ref A.cG)
 d5:dZ K A.cG
 Ed:cq K A.cG "network"
 y_:cq K A.cG "width"
 Ec:cq K A.cG "laws"
 Ee:cq K A.cG "rows"
 y8:cq K A.cG "fineness"
 vI:cq K A.cG "made"
 su:cq K A.cG "moment"
 vJ:cq K A.cG "memory"
 K6:Di K A.cG "Run.__init__" F8 ["self","network","rule","width","bits","moment"]
 K7:Dm K A.cG "time_after" "Run.time_after" F9 ["self","steps"]
 K5:Dm K A.cG "advance" "Run.advance" F6 ["self"]
 Op:mg "Simulator"=some (.ref A.dO)
 dM:dZ K A.dO
 mM:cq K A.dO "network"
 iz:cq K A.dO "run"
 K9:Di K A.dO "Simulator.__init__" Ga ["self"]
 K8:Dm K A.dO "begin" "Simulator.begin" F_ ["self","net","waves"]
 Lb:Dm K A.dO "start" "Simulator.start" Ge ["self","rule","hn","hd","bits"]
 Lc:Dm K A.dO "step" "Simulator.step" Gf ["self","n"]
 La:Dm K A.dO "now" "Simulator.now" Gd ["self","what","k"]
 K_:Dm K A.dO "is_on" "Simulator.is_on" Gb ["self","k"]
 K':Dm K A.dO "kept" "Simulator.kept" Gc ["self","k"]
 On:mg "Reader"=some (.ref A.fj)
 e_:dZ K A.fj
 vH:cq K A.fj "numbers"
 oN:cq K A.fj "at"
 K2:Di K A.fj "Reader.__init__" F2 ["self","numbers"]
 K1:Dm K A.fj "ended" "Reader.ended" F0 ["self"]
 K3:Dm K A.fj "take" "Reader.take" F3 ["self"]
 K4:Dm K A.fj "take_row" "Reader.take_row" F5 ["self"]
 Lz:Df K mg "has_wave" Gz ["kind"]
 Ly:Df K mg "has_four_nodes" Gy ["kind"]
 Lw:Df K mg "follows_current" Gx ["kind"]
 B5:Df K mg "is_kept" GF ["kind"]
 Me:Df K mg "tells_current" Hj ["kind"]
 Lq:Df K mg "currents_of" Gu ["kind"]
 Lo:Df K mg "common_divisor" Gr ["x","y"]
 LM:Df K mg "lowest" GO ["x"]
 L0:Df K mg "plus" GZ ["x","y"]
 LP:Df K mg "minus" GR ["x","y"]
 LR:Df K mg "negative" GU ["x"]
 L3:Df K mg "product" Ha ["x","y"]
 L5:Df K mg "quotient" Hc ["x","y"]
 Le:Df K mg "above" Gh ["x","y"]
 L':Df K mg "scale_of" Hi ["numbers"]
 Ma:Df K mg "scaled" Aa ["numbers","scale"]
 L_:Df K mg "rounded" Hh ["x","fineness"]
 L1:Df K mg "power_of_two" G_ ["exponent"]
 Lv:Df K mg "fault_of" Gw ["nodes","parts"]
 LX:Df K mg "part_fault" GX ["nodes","parts","k"]
 LU:Df K mg "nodes_of" GW ["part"]
 LO:Df K mg "may_have_number" GQ ["part"]
 L6:Df K mg "refers_rightly" Hd ["parts","k"]
 LA:Df K mg "is_coil_before" GA ["parts","x","k"]
 LD:Df K mg "is_new_pair" GH ["parts","k"]
 Lu:Df K mg "equation_rows" zY ["laws"]
 Md:Df K mg "solve" Ac ["rows"]
 LZ:Df K mg "pivot_place" GY ["rows","k"]
 Ln:Df K mg "cleared" zW ["row","lead","k"]
 Mc:Df K mg "shortened" Ab ["row"]
 Mf:Df K mg "unknowns_of" Ad ["solved","right"]
 LL:Df K mg "links_of" GN ["parts","k"]
 LY:Df K mg "parts_of" z_ ["net"]
 LC:Df K mg "is_network" GG ["net"]
 LG:Df K mg "is_part" GJ ["row"]
 LF:Df K mg "is_number" GI ["top","bottom"]
 Mm:Df K mg "waves_of" Hn ["parts","row"]
 LK:Df K mg "length_of" z0 ["waves"]
 Ml:Df K mg "wave_at" sT ["row","at"]
 L9:Df K mg "rise_from_zero" Hg ["moments"]
 LN:Df K mg "may_be_period" GP ["period","last"]
 Mh:Df K mg "value_at" Hk ["wave","time"]
 LQ:Df K mg "moment_in_period" GS ["period","time"]
 Mi:Df K mg "value_between" Hl ["wave","k","moment"]
 Lk:Df K mg "all_states" wf ["count"]
 LS:Df K mg "node_voltage" GV ["found","node"]
 Mj:Df K mg "voltage_of" Hm ["network","found","k"]
 Lp:Df K mg "current_of" Gs ["network","found","k"]
 Lr:Df K mg "diodes_hold" Gv ["network","states","found"]
 L8:Df K mg "right_sides" Hf ["laws","states","time","kept"]
 L7:Df K mg "remembered" He ["laws","k","kept"]
 LJ:Df K mg "law_rows" zZ ["network","pace","states"]
 Ls:Df K mg "empty_row" zX ["network"]
 Lf:Df K mg "add" Gi ["row","spot","amount"]
 Lj:Df K mg "add_voltage" Gn ["row","a","b","amount"]
 Lg:Df K mg "add_current" Gj ["rows","spot","a","b"]
 Li:Df K mg "add_told_side" Gm ["row","network","k","states"]
 LB:Df K mg "is_cut" GD ["network","k","states"]
 Lh:Df K mg "add_telling_side" Gk ["row","network","k","pace"]
 L4:Df K mg "quantity" Hb ["network","found","what","k"]
 LH:Df K mg "is_width" GK ["hn","hd"]
 LW:Df K mg "operating_point" z9 ["network"]
 LI:Df K mg "kept_of" GL ["network","moment","fineness"]
 Lm:Df K mg "answers" Gp ["calls"]
 Ll:Df K mg "answer_next" Go ["simulator","reader"]
def Fl{a:Type}(b:cK)(f:Str)(r:V->a->Prop)(x:a):Prop:=∃w,b.lookup f=some w/\r w x
def Fl.imp{b:Type}{a:cK}{f:Str}{r r':V->b->Prop}{x:b}(i:∀w,r w x->r' w x)(h:Fl a f r x):Fl a f r' x:=let ⟨w,e,q⟩:=h;⟨w,e,i w q⟩
def RS:Rl ao:=λH v xs=>∃p,v=.ref p/\H p=some (.aN (xs.map V.int))
instance:Mo RS:=⟨λs ⟨p,e,h⟩=>⟨p,e,s _ _ h⟩⟩
theorem zn(G:Hp):∀a:ao,Paired (RI G) (a.map V.int) a
 |[]=>.nil
 |_::a=>.cons rfl (zn G a)
def RS.rt{K:Frag}{G:Hp}{v:V}{xs:ao}(h:RS G v xs):RT K RI G v xs:=let ⟨p,e,h⟩:=h;⟨p,_,e,bi.of h,zn G xs⟩
def RS.new{G:Hp}{p:Addr}{xs:ao}:RS (ai G p (.aN (xs.map V.int))) (.ref p) xs:=⟨p,rfl,aS⟩
def io(K:Frag):Rl (Int×Fr):=λH v x=>∃p a,v=.ref p/\bi K H p [.int x.1,a]/\RF K H a x.2
instance {K:Frag}:Mo (io K):=⟨λs ⟨p,a,e,h,q⟩=>⟨p,a,e,bi.aF s h,Mo.mo s q⟩⟩
def io.new{K:Frag}{H:Hp}{p:Addr}{x:Int}{a:V}{q:Fr}(b:H p=none)(h:RF K H a q):io K (ai H p (.aN [.int x,a])) (.ref p) (x,q):=⟨p,a,rfl,bi.of aS,Mo.mo (aB.new b) h⟩
structure pF(K:Frag)(A:bV)(H:Hp)(fs:cK)(p:cJ):Prop where
 kind:Fl fs "kind" (RI H) p.kind
 a:Fl fs "a" (RI H) p.a
 b:Fl fs "b" (RI H) p.b
 c:Fl fs "c" (RI H) p.c
 d:Fl fs "d" (RI H) p.d
 q:Fl fs "q" ((RF K) H) p.q
def dH(K:Frag)(A:bV):Rl cJ:=λH v p=>∃x b a,v=.ref x/\H x=some (.aA A.dF b a)/\pF K A H a p
def pF.aF{K:Frag}{A:bV}{H f:Hp}{g:cK}{p:cJ}(s:aB H f)(h:pF K A H g p):pF K A f g p:=⟨h.kind.imp λ_ e=>Mo.mo s e,h.a.imp λ_ e=>Mo.mo s e,h.b.imp λ_ e=>Mo.mo s e,h.c.imp λ_ e=>Mo.mo s e,h.d.imp λ_ e=>Mo.mo s e,h.q.imp λ_ e=>Mo.mo s e⟩
instance {K:Frag} {A:bV}:Mo (dH K A):=⟨λs ⟨x,a,b,e,h,q⟩=>⟨x,a,b,e,s _ _ h,q.aF s⟩⟩
def dH.new{K:Frag}{A:bV}{G:Hp}{x b:Addr}{a:cK}{p:cJ}(c:G x=none)(h:pF K A G a p):dH K A (ai G x (.aA A.dF b a)) (.ref x) p:=⟨x,b,a,rfl,aS,h.aF (aB.new c)⟩
section
variable{P:Program}{K:Frag}{mg:df}{A:bV}{G H:Hp}{v:V}{p:cJ}{R:V->Prop}
def T5(T:Tx P K mg A)(h:dH K A G v p)(s:aB G H)(k:R (.int p.kind)):d_ K v "kind" H R:=by obtain⟨x,a,b,rfl,c,q⟩:=h;obtain⟨w,e,rfl⟩:=q.kind;exact⟨x,_,a,b,_,rfl,s _ _ c,T.kD,T.Ea,e,k⟩
def T1(T:Tx P K mg A)(h:dH K A G v p)(s:aB G H)(k:R (.int p.a)):d_ K v "a" H R:=by obtain⟨x,b,c,rfl,d,q⟩:=h;obtain⟨w,e,rfl⟩:=q.a;exact⟨x,_,b,c,_,rfl,s _ _ d,T.kD,T.D8,e,k⟩
def T2(T:Tx P K mg A)(h:dH K A G v p)(s:aB G H)(k:R (.int p.b)):d_ K v "b" H R:=by obtain⟨x,a,c,rfl,d,q⟩:=h;obtain⟨w,e,rfl⟩:=q.b;exact⟨x,_,a,c,_,rfl,s _ _ d,T.kD,T.D9,e,k⟩
def T3(T:Tx P K mg A)(h:dH K A G v p)(s:aB G H)(k:R (.int p.c)):d_ K v "c" H R:=by obtain⟨x,a,b,rfl,d,q⟩:=h;obtain⟨w,e,rfl⟩:=q.c;exact⟨x,_,a,b,_,rfl,s _ _ d,T.kD,T.D_,e,k⟩
def T4(T:Tx P K mg A)(h:dH K A G v p)(s:aB G H)(k:R (.int p.d)):d_ K v "d" H R:=by obtain⟨x,a,b,rfl,c,q⟩:=h;obtain⟨w,e,rfl⟩:=q.d;exact⟨x,_,a,b,_,rfl,s _ _ c,T.kD,T.D',e,k⟩
def ja(T:Tx P K mg A)(h:dH K A G v p)(s:aB G H)(k:∀w,(RF K) G w p.q->R w):d_ K v "q" H R:=by obtain⟨x,a,b,rfl,d,q⟩:=h;obtain⟨w,e,c⟩:=q.q;exact⟨x,_,a,b,_,rfl,s _ _ d,T.kD,T.Eb,e,k w c⟩
end
structure pG(K:Frag)(A:bV)(H:Hp)(fs:cK)(p:dX):Prop where
 period:Fl fs "period" ((RF K) H) p.period
 cD:Fl fs "moments" ((RL (RF K)) H) p.cD
 fP:Fl fs "levels" ((RL (RF K)) H) p.fP
 length:Fl fs "length" (RI H) p.length
def eY(K:Frag)(A:bV):Rl dX:=λH v p=>∃x b a,v=.ref x/\H x=some (.aA A.fJ b a)/\pG K A H a p
def pG.aF{K:Frag}{A:bV}{H b:Hp}{c:cK}{p:dX}(s:aB H b)(h:pG K A H c p):pG K A b c p:=⟨h.period.imp λ_ a=>Mo.mo s a,h.cD.imp λ_ a=>Mo.mo s a,h.fP.imp λ_ a=>Mo.mo s a,h.length.imp λ_ a=>Mo.mo s a⟩
instance {K:Frag} {A:bV}:Mo (eY K A):=⟨λs ⟨x,a,b,e,h,q⟩=>⟨x,a,b,e,s _ _ h,q.aF s⟩⟩
def eY.new{K:Frag}{A:bV}{G:Hp}{x b:Addr}{a:cK}{p:dX}(c:G x=none)(h:pG K A G a p):eY K A (ai G x (.aA A.fJ b a)) (.ref x) p:=⟨x,b,a,rfl,aS,h.aF (aB.new c)⟩
section
variable{P:Program}{K:Frag}{mg:df}{A:bV}{G H:Hp}{v:V}{p:dX}{R:V->Prop}
def MS(T:Tx P K mg A)(h:eY K A G v p)(s:aB G H)(k:∀w,(RF K) G w p.period->R w):d_ K v "period" H R:=by obtain⟨x,a,b,rfl,d,q⟩:=h;obtain⟨w,e,c⟩:=q.period;exact⟨x,_,a,b,_,rfl,s _ _ d,T.ny,T.Ei,e,k w c⟩
def rT(T:Tx P K mg A)(h:eY K A G v p)(s:aB G H)(k:∀w,(RL (RF K)) G w p.cD->R w):d_ K v "moments" H R:=by obtain⟨x,a,b,rfl,d,q⟩:=h;obtain⟨w,e,c⟩:=q.cD;exact⟨x,_,a,b,_,rfl,s _ _ d,T.ny,T.Eh,e,k w c⟩
def uM(T:Tx P K mg A)(h:eY K A G v p)(s:aB G H)(k:∀w,(RL (RF K)) G w p.fP->R w):d_ K v "levels" H R:=by obtain⟨x,a,b,rfl,d,q⟩:=h;obtain⟨w,e,c⟩:=q.fP;exact⟨x,_,a,b,_,rfl,s _ _ d,T.ny,T.Eg,e,k w c⟩
def T6(T:Tx P K mg A)(h:eY K A G v p)(s:aB G H)(k:R (.int p.length)):d_ K v "length" H R:=by obtain⟨x,a,b,rfl,c,q⟩:=h;obtain⟨w,e,rfl⟩:=q.length;exact⟨x,_,a,b,_,rfl,s _ _ c,T.ny,T.Ef,e,k⟩
end
structure oh(K:Frag)(A:bV)(H:Hp)(fs:cK)(p:bB):Prop where
 nodes:Fl fs "nodes" (RI H) p.nodes
 af:Fl fs "parts" ((RL (dH K A)) H) p.af
 waves:Fl fs "waves" ((RL (RO (eY K A))) H) p.waves
 aW:Fl fs "spots" ((RL RI) H) p.aW
 size:Fl fs "size" (RI H) p.size
 diodes:Fl fs "diodes" ((RL RI) H) p.diodes
 eO:Fl fs "links" ((RL (RL (io K))) H) p.eO
 DN:fs.lookup ("kind_of":Str)=none
def dE(K:Frag)(A:bV):Rl bB:=λH v p=>∃x b a,v=.ref x/\H x=some (.aA A.cA b a)/\oh K A H a p
def oh.aF{K:Frag}{A:bV}{H b:Hp}{c:cK}{p:bB}(s:aB H b)(h:oh K A H c p):oh K A b c p:=⟨h.nodes.imp λ_ a=>Mo.mo s a,h.af.imp λ_ a=>Mo.mo s a,h.waves.imp λ_ a=>Mo.mo s a,h.aW.imp λ_ a=>Mo.mo s a,h.size.imp λ_ a=>Mo.mo s a,h.diodes.imp λ_ a=>Mo.mo s a,h.eO.imp λ_ a=>Mo.mo s a,h.DN⟩
instance {K:Frag} {A:bV}:Mo (dE K A):=⟨λs ⟨x,a,b,e,h,q⟩=>⟨x,a,b,e,s _ _ h,q.aF s⟩⟩
def dE.new{K:Frag}{A:bV}{G:Hp}{x b:Addr}{a:cK}{p:bB}(c:G x=none)(h:oh K A G a p):dE K A (ai G x (.aA A.cA b a)) (.ref x) p:=⟨x,b,a,rfl,aS,h.aF (aB.new c)⟩
section
variable{P:Program}{K:Frag}{mg:df}{A:bV}{G H:Hp}{v:V}{p:bB}{R:V->Prop}
def TZ(T:Tx P K mg A)(h:dE K A G v p)(s:aB G H)(k:R (.int p.nodes)):d_ K v "nodes" H R:=by obtain⟨x,a,b,rfl,c,q⟩:=h;obtain⟨w,e,rfl⟩:=q.nodes;exact⟨x,_,a,b,_,rfl,s _ _ c,T.gJ,T.D3,e,k⟩
def jT(T:Tx P K mg A)(h:dE K A G v p)(s:aB G H)(k:∀w,(RL (dH K A)) G w p.af->R w):d_ K v "parts" H R:=by obtain⟨x,a,b,rfl,d,q⟩:=h;obtain⟨w,e,c⟩:=q.af;exact⟨x,_,a,b,_,rfl,s _ _ d,T.gJ,T.D5,e,k w c⟩
def MR(T:Tx P K mg A)(h:dE K A G v p)(s:aB G H)(k:∀w,(RL (RO (eY K A))) G w p.waves->R w):d_ K v "waves" H R:=by obtain⟨x,a,b,rfl,d,q⟩:=h;obtain⟨w,e,c⟩:=q.waves;exact⟨x,_,a,b,_,rfl,s _ _ d,T.gJ,T.D7,e,k w c⟩
def mv(T:Tx P K mg A)(h:dE K A G v p)(s:aB G H)(k:∀w,(RL RI) G w p.aW->R w):d_ K v "spots" H R:=by obtain⟨x,a,b,rfl,d,q⟩:=h;obtain⟨w,e,c⟩:=q.aW;exact⟨x,_,a,b,_,rfl,s _ _ d,T.gJ,T.yZ,e,k w c⟩
def T0(T:Tx P K mg A)(h:dE K A G v p)(s:aB G H)(k:R (.int p.size)):d_ K v "size" H R:=by obtain⟨x,a,b,rfl,c,q⟩:=h;obtain⟨w,e,rfl⟩:=q.size;exact⟨x,_,a,b,_,rfl,s _ _ c,T.gJ,T.vG,e,k⟩
def pU(T:Tx P K mg A)(h:dE K A G v p)(s:aB G H)(k:∀w,(RL RI) G w p.diodes->R w):d_ K v "diodes" H R:=by obtain⟨x,a,b,rfl,d,q⟩:=h;obtain⟨w,e,c⟩:=q.diodes;exact⟨x,_,a,b,_,rfl,s _ _ d,T.gJ,T.D1,e,k w c⟩
def Ct(T:Tx P K mg A)(h:dE K A G v p)(s:aB G H)(k:∀w,(RL (RL (io K))) G w p.eO->R w):d_ K v "links" H R:=by obtain⟨x,a,b,rfl,d,q⟩:=h;obtain⟨w,e,c⟩:=q.eO;exact⟨x,_,a,b,_,rfl,s _ _ d,T.gJ,T.D2,e,k w c⟩
end
structure pE(K:Frag)(A:bV)(H:Hp)(fs:cK)(p:i7):Prop where
 states:Fl fs "states" (RS H) p.states
 aE:Fl fs "found" ((RL (RF K)) H) p.aE
def jK(K:Frag)(A:bV):Rl i7:=λH v p=>∃x b a,v=.ref x/\H x=some (.aA A.ml b a)/\pE K A H a p
def pE.aF{K:Frag}{A:bV}{H b:Hp}{c:cK}{p:i7}(s:aB H b)(h:pE K A H c p):pE K A b c p:=⟨h.states.imp λ_ a=>Mo.mo s a,h.aE.imp λ_ a=>Mo.mo s a⟩
instance {K:Frag} {A:bV}:Mo (jK K A):=⟨λs ⟨x,a,b,e,h,q⟩=>⟨x,a,b,e,s _ _ h,q.aF s⟩⟩
def jK.new{K:Frag}{A:bV}{G:Hp}{x b:Addr}{a:cK}{p:i7}(c:G x=none)(h:pE K A G a p):jK K A (ai G x (.aA A.ml b a)) (.ref x) p:=⟨x,b,a,rfl,aS,h.aF (aB.new c)⟩
section
variable{P:Program}{K:Frag}{mg:df}{A:bV}{G H:Hp}{v:V}{p:i7}{R:V->Prop}
def Cs(T:Tx P K mg A)(h:jK K A G v p)(s:aB G H)(k:∀w,RS G w p.states->R w):d_ K v "states" H R:=by obtain⟨x,a,b,rfl,d,q⟩:=h;obtain⟨w,e,c⟩:=q.states;exact⟨x,_,a,b,_,rfl,s _ _ d,T.vc,T.D0,e,k w c⟩
def x'(T:Tx P K mg A)(h:jK K A G v p)(s:aB G H)(k:∀w,(RL (RF K)) G w p.aE->R w):d_ K v "found" H R:=by obtain⟨x,a,b,rfl,d,q⟩:=h;obtain⟨w,e,c⟩:=q.aE;exact⟨x,_,a,b,_,rfl,s _ _ d,T.vc,T.DZ,e,k w c⟩
end
variable{P:Program}(w:World){K:Frag}{mg:df}(ah:Heap){A:bV}
local macro_rules| `(tactic|revert $x:ident)=> `(tactic|(refine(?_:type_of% @$x) ?_;focus with_unfolding_all exact λh=>h))
local macro_rules| `(tactic|walk_at "go")=> `(tactic|with_reducible repeat fail "Ur:UY UW Uy T9 UK UZ Uk Ug UX Uf T_+ U0+;Us:U8 U7 Ue UO Ub UL Uj U3 UI UH uT UD U4 Ud U2 U6 Uw UC Ua UP UN T8 T7 UT Ut UR U1 Uh U9 UU UV UM yj Ux UQ UF Uc+ UG+ UE+ C6+;Uq:Uu+ Ui+ UJ+ Uv++ Ul+++ Um+++;Up:jV iP Uz UA;T'+;UB+;U5+;Uo:T5++++ T1++++ T2++++ T3++++ T4++++ T6++++ TZ++++ T0++++;US+")
local macro_rules| `(tactic|walk_at "lk")=> `(tactic|focus ((repeat fail "U'!;U_+");try with_reducible rfl))
local macro_rules| `(tactic|rw[Vh $e])=> `(tactic|refine NF $e ?_)
local macro_rules| `(tactic|rw[Vg $e])=> `(tactic|refine NE $e ?_)
local macro_rules| `(tactic|exists $e)=> `(tactic|(walk_at "go";refine $e))
def cV(x:Fr):Prop:=Sz x.1/\Sz x.2
def ze(T:Tx P K mg A):Fn P w K mg ah 41 "common_divisor" ["x","y"] (b6 RI RI RI (λ_ _=>True) cN):=by
 refine T.Lo.fn qr b6.aC λf L A O s H vs Q E N h=>?_;obtain⟨G,_,_,x,y,rfl,F,rfl,rfl,_,k⟩:=h;obtain⟨I,m⟩:∃v,v=V.int x:=⟨_,rfl⟩
 obtain⟨J,n⟩:∃v,v=V.int y:=⟨_,rfl⟩
 rw[<-m, <-n]
 refine⟨_,(au (bo 2 qr.nd (sL BJ (by rfl) T.Bp Bx (a9 ap)))
   (au (bo 3 qr.nd (sL BJ (by rfl) T.Bp Bx (a9 ax)))
   (au (Fo VJ (bg jf aZ az)
    (au (bo 4 qr.nd (bF zm aP aZ))
   (au (bo 2 qr.nd aZ)
   (aw (bo 3 qr.nd bP)))))
   (aw (aJ aP))))),?_⟩
 try simp only[bn]
 refine br [some I,some J,none,none,none] ?_;subst m n;exists CO ?_;exists CO ?_;exists TN (λg d=>d=H/\∃(a b:Nat)(u:b9),g=[some (.int x),some (.int y),some (.int a),some (.int b),u]/\Int.gcd a b=Int.gcd x y) (λg _=>match g with|[_,_,_,some (.int b),_]=>b.toNat|_=>0) ?_ ?_ ?_
 ·exact⟨rfl,x.natAbs,y.natAbs,none,rfl,by simp[Int.gcd]⟩
 ·rintro g d ⟨rfl,a,b,u,rfl,p⟩;walk_at "go";by_cases o:b=0
  ·subst o;rw[Vg (by simp)];exists k d G _ (al.refl F) ?_;show V.int a=V.int (cN x y);unfold cN;rw[<-p];simp[Int.gcd]
  ·rw[Vh (by simp;lia)];have M:(0:Int)<(b:Int):=by lia
   exists⟨⟨rfl,b,a%b,some (.int ((a:Int)%(b:Int))),?_,?_⟩,?_⟩
   ·simp[List.set]
   ·rw[<-p];simp only[Int.gcd,Int.natAbs_natCast];rw[Nat.gcd_comm,Nat.gcd_comm a b];exact(Nat.gcd_rec b a).symm
   ·simp[List.set];have:=Nat.mod_lt a (Nat.pos_of_ne_zero o)
    lia
 ·intro g d q r D l;have l:cQ 3 g d λx i=>tC (V.int 0) g i λy j=>mQ x y j λx d=>∃k,x=V.bl k/\q k d:=l;obtain⟨v,e,z,c,B⟩:=Jl l;obtain⟨t,C⟩:=B;show cQ 3 g d λx i=>tC (V.int 0) g i λy j=>mQ x y j λx d=>∃k,x=V.bl k/\r k d;exact C6 ⟨z,c,t,D _ _ C⟩ e
def zh(T:Tx P K mg A):Fn P w K mg ah 41 "plus" ["x","y"] (b6 (RF K) (RF K) (RF K) (λx y=>cV x/\cV y) plus):=by
 refine T.L0.fn Sg b6.aC λf l A u s H vs Q E o h=>?_;obtain⟨G,i,j,x,y,rfl,g,m,n,⟨⟨d,a⟩,e,b⟩,k⟩:=h;refine⟨_,(aw (aJ (dC (aV (bF je (bF eQ (px K ap az) (px K ax az)) (bF eQ (px K ax az) (px K ap az))) (bF eQ (px K ap az) (px K ax az)))))),?_⟩
 try simp only[bn]
 refine br [some i,some j] ?_;have q:=d.mul b;have r:=e.mul a;have t:=a.mul b;exists⟨dh,λp c=>k _ _ _ (al.new g c) (RF.new (x:=plus x y))⟩
def zg(T:Tx P K mg A):Fn P w K mg ah 41 "minus" ["x","y"] (b6 (RF K) (RF K) (RF K) (λx y=>cV x/\cV y) dS):=by
 refine T.LP.fn Sc b6.aC λf l A u s H vs Q E o h=>?_;obtain⟨G,i,j,x,y,rfl,g,m,n,⟨⟨d,a⟩,e,b⟩,k⟩:=h;refine⟨_,(aw (aJ (dC (aV (bF jg (bF eQ (px K ap az) (px K ax az)) (bF eQ (px K ax az) (px K ap az))) (bF eQ (px K ap az) (px K ax az)))))),?_⟩
 try simp only[bn]
 refine br [some i,some j] ?_;have q:=d.mul b;have r:=e.mul a;have t:=a.mul b;exists⟨dh,λp c=>k _ _ _ (al.new g c) (RF.new (x:=dS x y))⟩
def vM(T:Tx P K mg A):Fn P w K mg ah 41 "negative" ["x"] (bW (RF K) (RF K) (λ_=>True) cf):=by
 refine T.LR.fn Sd bW.aC λf d A i s H vs Q E g h=>?_;obtain⟨G,c,x,rfl,b,e,_,k⟩:=h;refine⟨_,(aw (aJ (dC (aV (gX g9 (px K ap az)) (px K ap az))))),?_⟩
 try simp only[bn]
 refine br [some c] ?_;exists⟨dh,λp a=>k _ _ _ (al.new b a) (RF.new (x:=cf x))⟩
def qg(T:Tx P K mg A):Fn P w K mg ah 41 "product" ["x","y"] (b6 (RF K) (RF K) (RF K) (λx y=>cV x/\cV y) bI):=by
 refine T.L3.fn Sh b6.aC λf l A t s H vs Q E o h=>?_;obtain⟨G,i,j,x,y,rfl,g,m,n,⟨⟨b,c⟩,d,e⟩,k⟩:=h;refine⟨_,(aw (aJ (dC (aV (bF eQ (px K ap az) (px K ax az)) (bF eQ (px K ap az) (px K ax az)))))),?_⟩
 try simp only[bn]
 refine br [some i,some j] ?_;have q:=b.mul d;have r:=c.mul e;exists⟨dh,λp a=>k _ _ _ (al.new g a) (RF.new (x:=bI x y))⟩
def zi(T:Tx P K mg A):Fn P w K mg ah 41 "quotient" ["x","y"] (b6 (RF K) (RF K) (RF K) (λx y=>cV x/\cV y) cU):=by
 refine T.L5.fn Sj b6.aC λf l A t s H vs Q E o h=>?_;obtain⟨G,i,j,x,y,rfl,g,m,n,⟨⟨b,c⟩,d,e⟩,k⟩:=h;refine⟨_,(aw (aJ (dC (aV (bF eQ (px K ap az) (px K ax az)) (bF eQ (px K ap az) (px K ax az)))))),?_⟩
 try simp only[bn]
 refine br [some i,some j] ?_;have q:=b.mul e;have r:=c.mul d;exists⟨dh,λp a=>k _ _ _ (al.new g a) (RF.new (x:=cU x y))⟩
def qf(T:Tx P K mg A):Fn P w K mg ah 41 "above" ["x","y"] (b6 (RF K) (RF K) RB (λx y=>cV x/\cV y) above):=by
 refine T.Le.fn RV b6.aC λf j A q s H vs Q E n h=>?_;obtain⟨G,g,i,x,y,rfl,e,l,m,⟨⟨a,b⟩,c,d⟩,k⟩:=h;refine⟨_,(aw (aJ (ff iT (bF eQ (px K ap az) (px K ax az)) (bF eQ (px K ax az) (px K ap az))))),?_⟩
 try simp only[bn]
 refine br [some g,some i] ?_;have o:=a.mul d;have p:=c.mul b;exists k _ _ _ (al.refl e) rfl
def EJ(T:Tx P K mg A):Fn P w K mg ah 41 "scaled" ["numbers","scale"] (b6 (RL (RF K)) RI (RL RI) (λl s=>l.length<sizeLine/\∀x∈l,0<x.2/\IntMulOk x.1 (s/x.2)) cS):=by
 refine T.Ma.fn Aq b6.aC λf B A C s H vs Q E j h=>?_;obtain⟨G,y,z,l,t,rfl,p,c,d,⟨g,i⟩,k⟩:=h;refine⟨_,(aw (aJ (j2 rfl Aq.nd (gY (K:=K) ap) (hW (own:=[("x",2)]) (by show gC ["numbers","scale","x"] (aM Aa) _ _=true;decide+kernel)) (λ_ _ _ _ _=>(bU 2 Aq.nd)) (λ_ _ _ _ _=>iV) (λ_ _ _ _ _=>(bF eQ (px K aP az) (bF (oQ (oA T.tree j).fI) ax (px K aP az))))))),?_⟩
 try simp only[bn]
 refine br [some y,some z,none] ?_;subst d;exists pX (r:=RF K) (rr:=RI) (λx=>x.1*(t/x.2)) c p g (λ_=>rfl) ?_ λb a v e m=>k b a v e m;intro b a u x R e n I o;obtain⟨D,F⟩:=i x n;have q:=e.sub;exists o _ _ _ (al.refl q) rfl
def Sl(l:aG)(x:Fr):aR (l++[x])=fR (aR l) x:=by unfold aR;rw[Wl];rfl
def Sm{l:aG}{j:Nat}{x:Fr}(h:l[j]? =some x):aR (l.take (j+1))=fR (aR (l.take j)) x:=by rw[VU,h];exact Sl _ _
def pH(l:aG):Prop:=∀(j:Nat)(x:Fr),l[j]? =some x->0<x.2/\IntMulOk (aR (l.take j)) (x.2/cN (aR (l.take j)) x.2)
def C8{x y:Int}(h:0<y):0<cN x y:=by
 unfold cN;have:=Int.gcd_pos_of_ne_zero_right x (show y≠0 by lia)
 lia
def EI(T:Tx P K mg A):Fn P w K mg ah 42 "scale_of" ["numbers"] (bW (RL (RF K)) RI pH aR):=by
 have o:=ze w ah T;refine T.L'.fn wy bW.aC λf I A L s H vs Q E d h=>?_;obtain⟨G,m,l,rfl,i,t,y,k⟩:=h;refine⟨_,(au (bo 1 wy.nd az)
   (au (dY VJ rfl (gY (K:=K) ap) (bU 2 wy.nd)
    (aw (bo 1 wy.nd (bF eQ ax (bF (oQ (oA T.tree d)) (px K aP az) (aL o d (aV ax (px K aP az))))))))
   (aw (aJ ax)))),?_⟩
 try simp only[bn]
 refine br [some m,none,none] ?_;exists mz (r:=RF K) (λj c b a=>al H G b a/\∃u:b9,c=[some m,some (.int (aR (l.take j))),u]) t i ⟨al.refl i,none,rfl⟩ (λj c b a p=>⟨p.1.gs,p.1.sub⟩) ?_ ?_
 ·rintro j x u c b a g J ⟨e,D,rfl⟩;have C:=e.sub;obtain⟨B,M⟩:=y j x g;have N:=C8 (x:=aR (l.take j)) B;exists bT a C rfl rfl trivial λF n v q z=>?_;subst z;exists⟨n,e.trans q,some u,?_⟩;rw[Sm g];rfl
 ·rintro c b a ⟨e,D,rfl⟩;rw[Wj];exists k b a _ e rfl
def P0(T:Tx P K mg A):Fn P w K mg ah 41 "power_of_two" ["exponent"] (bW RI RI (λn=>0<=n/\n<=64) ga):=by
 refine T.L1.fn wx bW.aC λf i A r s H vs Q E q h=>?_;obtain⟨G,g,n,rfl,e,d,⟨p,o⟩,k⟩:=h;refine⟨_,(au (bo 1 wx.nd az)
   (au (dY VJ rfl (lR (by rfl) T.hR (a9 ap)) (bU 2 wx.nd)
    (aw (bo 1 wx.nd (bF eQ ax az))))
   (aw (aJ ax)))),?_⟩
 try simp only[bn]
 refine br [some g,none,none] ?_;subst d;exists⟨n,rfl,⋯,⋯,?_⟩;refine mB (G:=G) (λj b a c=>a=H/\∃u:b9,b=[some (.int n),some (.int (2^j)),u]) ⟨rfl,none,rfl⟩ ?_ ?_
 ·rintro j b a c l ⟨rfl,u,rfl⟩;have m:IntMulOk (2^j) 2:=IntMulOk.of_right ∅;exists⟨G,rfl,_,rfl⟩
 ·rintro b a c ⟨rfl,u,rfl⟩;exists k a G _ (al.refl e) rfl
def P7(T:Tx P K mg A):Fn P w K mg ah 41 "rounded" ["x","fineness"] (b6 (RF K) RI (RF K) (λx f=>0<x.2/\IntMulOk x.1 f/\IntMulOk (x.1*f/x.2) x.2) rounded):=by
 refine T.L_.fn sW b6.aC λf z A J s H vs Q E t h=>?_;obtain⟨G,m,v,x,y,rfl,n,C,q,⟨e,D,F⟩,k⟩:=h;refine⟨_,(au (bo 2 sW.nd (bF eQ (px K ap az) ax))
   (au (bo 3 sW.nd (bF (oQ (oA T.tree t)) aP (px K ap az)))
   (au (bo 4 sW.nd (bF jg aP (bF eQ aZ (px K ap az))))
   (au (a_ ((j5 (bg iT (bF eQ az bP) (px K ap az)) (lT ((nO (bg cp (bF eQ az bP) (px K ap az)) (nP (bg cp (bF zm aZ az) az)))).pt))).pt
    (aw (zB (i:=3) sW.nd rfl (Or.inl rfl) az yx))
    bx)
   (aw (aJ (dC (aV aZ ax)))))))),?_⟩
 try simp only[bn]
 refine br [some m,some v,none,none,none] ?_;subst q;have u:∀o:Int,IntMulOk 2 o:=λo=>IntMulOk.of_left ∅;have I:=u (x.1*y-x.1*y/x.2*x.2);have B:(0:Int)<2:=by decide
 walk_at "go";have l:∀b:Bool,b=oU x (x.1*y)->(if b=true then AI 3 (tC (.int 1)) (yw λi j=>i+j) {nx:=qH (wM (dD (cQ 3) (dD (cQ 1) eU))) {nx:=λx g=>Q V.aO g,rt:=Q},rt:=Q} [some m,some (.int y),some (.int (x.1*y)),some (.int (x.1*y/x.2)),some (.int (x.1*y-x.1*y/x.2*x.2))] H
   else qG {nx:=qH (wM (dD (cQ 3) (dD (cQ 1) eU))) {nx:=λx g=>Q V.aO g,rt:=Q},rt:=Q} [some m,some (.int y),some (.int (x.1*y)),some (.int (x.1*y/x.2)),some (.int (x.1*y-x.1*y/x.2*x.2))] H):=by
  intro b r;have d:rounded x y=(if b=true then x.1*y/x.2+1 else x.1*y/x.2,y):=by rw[r];rfl
  cases b with
  |true=>rw[Vh rfl] at d ⊢;exists yg ?_;exists⟨dh,λp e=>k _ _ _ (al.new n e) ?_⟩;rw[d];exact RF.new (x:=(x.1*y/x.2+1,y))
  |false=>rw[Vg (by simp)] at d ⊢;exists⟨dh,λp e=>k _ _ _ (al.new n e) ?_⟩;rw[d];exact RF.new (x:=(x.1*y/x.2,y))
 by_cases a:x.2<2*(x.1*y-x.1*y/x.2*x.2)
 ·refine bv a ?_;exact l true (by unfold oU;rw[Vx a];rfl)
 ·rw[Vg (by simp[a])];walk_at "go";by_cases c:2*(x.1*y-x.1*y/x.2*x.2)=x.2
  ·refine bv c ?_;exists l _ (by unfold oU;rw[VF a,Vx c];simp)
  ·rw[Vg (by simp[c])];exact l _ (by unfold oU;rw[VF a,VF c];simp)
def dB{n:Nat}(h:n<=1000):n<sizeLine:=Vl h ∅
def al.O4{H G a:Hp}(s:aB G H)(h:aB H a):al H G a G:=⟨h,aB.refl _,s.trans h,λ_ q _=>q⟩
def Nq{l:ao}{j:Nat}{x:Int}(h:l[j]? =some x):de (l.take (j+1))=cN (de (l.take j)) x:=by unfold de;rw[VU,h,Wl];rfl
def Nn(x:Int):cN 1 x=1:=by simp[cN]
def Np{l:ao}{j:Nat}(h:de (l.take j)=1):de l=1:=by
 have c:∀m:ao,m.foldl cN 1=1:=by
  intro m;induction m with
  |nil=>rfl
  |cons a m b=>rw[V3,Nn];exact b
 unfold de at h ⊢;rw[<-Xg j l,Wl,h];exact c _
def Sw{l:ao}(h:de l=1):iY l=l:=by unfold iY;rw[h,Vg ∅];simp
def yl(l:ao):0<=de l:=by
 unfold de;have:∀(m:ao)(a:Int),0<=a->0<=m.foldl cN a:=by
  intro m;induction m with
  |nil=>intro a h;exact h
  |cons b m c=>intro a h;exact c _ (by unfold cN;lia)
 exact this l 0 ∅
def P8(T:Tx P K mg A):Fn P w K mg ah 42 "shortened" ["row"] (bW (RL RI) (RL RI) (λl=>l.length<=1000) iY):=by
 have B:=ze w ah T;refine T.Mc.fn qv bW.aC λf L A N s H vs Q E q h=>?_;obtain⟨G,z,l,rfl,y,m,C,k⟩:=h;refine⟨_,(au (bo 1 qv.nd az)
   (au (dY VJ rfl (gY (K:=K) ap) (bU 2 qv.nd)
    (au (bo 1 qv.nd (aL B q (aV ax aP)))
   (aw (a_ (bg cp ax az)
    (aw (aJ ap))
    bx))))
   (au (a_ (bg cp ax az)
    (aw (aJ ap))
    bx)
   (aw (aJ (j2 rfl qv.nd (gY (K:=K) ap) (hW (own:=[("x",2)]) (by show gC ["row","divisor","x"] (aM Ab) _ _=true;decide+kernel)) (λ_ _ _ _ _=>(bU 2 qv.nd)) (λ_ _ _ _ _=>iV) (λ_ _ _ _ _=>(bF (oQ (oA T.tree q).fI) aP ax)))))))),?_⟩
 try simp only[bn]
 refine br [some z,none,none] ?_;exists mz (r:=RI) (λj n g b=>al H G g b/\∃u:b9,n=[some z,some (.int (de (l.take j))),u]) m y ⟨al.refl y,none,rfl⟩ (λj n g b p=>⟨p.1.gs,p.1.sub⟩) ?_ ?_
 ·rintro j x u n g b t D ⟨e,J,rfl⟩;subst D;exists bT b e.sub rfl rfl trivial λi d v a o=>?_;subst o;walk_at "go";rw[<-Nq t];by_cases c:de (l.take (j+1))=1
  ·refine bv c ?_;exists k i d _ (e.trans a) ?_;rw[Sw (Np c)];exact(e.trans a).up m
  ·rw[Vg (by simp[c])];exists⟨d,e.trans a,_,rfl⟩
 ·rintro n g b ⟨e,J,rfl⟩;rw[Wj];walk_at "go";by_cases c:de l=0
  ·refine bv c ?_;exists k g b _ e ?_;unfold iY;rw[Vh c];exact e.up m
  ·rw[Vg (by simp[c])];have M:0<de l:=by have:=yl l;lia
   exists pX (r:=RI) (rr:=RI) (λx=>x/de l) (e.up m) e.sub (dB C) (λ_=>rfl) ?_ λi d v a o=>k i d v (e.trans a) ?_
   ·intro i d u x R a t I F;subst I;exists F _ _ _ (al.refl a.sub) rfl
   ·unfold iY;rw[Vg c];exact o
def mC{a:Type}{l:List a}{i:Nat}{d x:a}(h:l[i]? =some x):l.getD i d=x:=by rw[Vd,h];rfl
def tU(m:Nat)(r:ao):Prop:=r.length=m/\∀x∈r,Sz x
def Ps(T:Tx P K mg A):Fn P w K mg ah 43 "cleared" ["row","lead","k"] (eG (RL RI) (RL RI) RI (RL RI) (λr l k=>∃m,tU m r/\tU m l/\m<=1000/\0<=k/\k<m) λr l k=>gR r l k.toNat):=by
 have F:=P8 w ah T;refine T.Ln.fn qp eG.aC λf ad A an s H vs Q E S h=>?_;obtain⟨G,aa,ab,ac,r,l,C,rfl,g,p,q,M,⟨m,⟨aj,z⟩,⟨ag,t⟩,ai,ae,af⟩,k⟩:=h;refine⟨_,(au (bo 3 qp.nd (px K ap aP))
   (au (bo 4 qp.nd (px K ax aP))
   (aw (aJ (aL F S (a9 (j2 rfl qp.nd (E1 (K:=K) (by rfl) T.uk (aV ap ax)) (hW (own:=[("x",5),("y",6)]) (by show gC ["row","lead","k","own","factor","x","y"] (aM zW) _ _=true;decide+kernel)) (λ_ _ _ _ _=>(lp (K:=K) (n:=2) rfl (f_ (bU 5 qp.nd) (f_ (bU 6 qp.nd) lq)))) (λ_ _ _ _ _=>iV) (λ_ _ _ _ _=>(bF jg (bF eQ bP da) (bF eQ aZ eF)))))))))),?_⟩
 try simp only[bn]
 refine br [some aa,some ab,some ac,none,none,none,none] ?_;subst M;obtain⟨c,rfl⟩:∃c:Nat,C=(c:Int):=⟨C.toNat,⋯⟩
 have o:r[c]? =some (r.getD c 0):=by rw[Vd,Ve ⋯];rfl
 have j:l[c]? =some (l.getD c 0):=by rw[Vd,Ve ⋯];rfl
 exists bE c p g rfl o λu d=>?_;subst d;exists bE c q g rfl j λu d=>?_;subst d;exists CZ (r:=RI) (r':=RI) (rr:=RI) (λx y=>l.getD c 0*x-r.getD c 0*y) p q g (dB ⋯) (λ_ _=>rfl) ?_ ?_
 ·intro I i a b x y R e B N O X;subst N O;have ak:IntMulOk (l.getD c 0) x:=(t _ (Vf j)).mul (z _ (WL B).1);have am:IntMulOk (r.getD c 0) y:=(z _ (Vf o)).mul (t _ (WL B).2);exists X _ _ _ (al.refl e.sub) rfl
 ·intro I i v e V;exists dG i e.sub V (by rw[W9];lia) λJ D Y L W=>k J D Y (e.trans L) W
def PZ(T:Tx P K mg A):Fn P w K mg ah 41 "pivot_place" ["rows","k"] (b6 (RL (RL RI)) RI (RO RI) (λb k=>0<=k/\k<=b.length/\b.length<=1000/\∀r∈b,k<r.length) λb k=>(kF b k.toNat).map λp:Nat=>(p:Int)):=by
 refine T.LZ.fn HH b6.aC λf F A O s H vs Q E N h=>?_;obtain⟨G,q,C,b,o,rfl,e,n,v,⟨J,L,M,y⟩,k⟩:=h
 refine⟨_,(au (dY VJ rfl (zt (by rfl) T.hR (aV ax (eE K T.eu ap))) (bU 2 HH.nd)
    (aw (a_ (bg jf (px K (px K ap aP) ax) az)
    (aw (aJ aP))
    bx)))
   (aw (aJ d7))),?_⟩
 try simp only[bn]
 refine br [some q,some C,none] ?_;subst v;obtain⟨a,rfl⟩:∃a:Nat,o=(a:Int):=⟨o.toNat,⋯⟩
 exists eZ n e ?_;exists⟨a,b.length,rfl,⟨⋯,⋯,⋯,⋯⟩,?_⟩;rw[show((b.length:Int)-(a:Int)).toNat=b.length-a by lia];refine mB (G:=G) (λj i g l=>g=H/\(∃u:b9,i=[some q,some (.int a),u])/\nJ b a (b.length-a-j) (a+j)=kF b a) ⟨rfl,⟨none,rfl⟩,rfl⟩ ?_ ?_
 ·rintro j i g l I ⟨rfl,⟨u,rfl⟩,d⟩;have m:b[a+j]? =some (b.getD (a+j) []):=by rw[Vd,Ve ⋯];rfl
  have x:=y _ (Vf m);have t:(b.getD (a+j) [])[a]? =some (kZ b (a+j) a):=by unfold kZ;generalize b.getD (a+j) []=r at x ⊢;rw[Vd,Ve ⋯];rfl
  exists bE (a+j) n e ⋯ m λu z=>?_;exists bE a z e rfl t λR B=>?_;subst B;walk_at "go";rw[show b.length-a-j=b.length-a-(j+1)+1 by lia] at d;unfold nJ at d;by_cases c:kZ b (a+j) a=0
  ·rw[Vg (by simp[c])];rw[Vg (by simp[c])] at d;exists⟨G,rfl,⟨_,rfl⟩,d⟩
  ·rw[Vh (by simp[c])];rw[Vh c] at d;exists k _ G _ (al.refl e) ?_;show RO RI G _ ((kF b a).map _);rw[<-d];exact⟨(λD=>nomatch D),rfl⟩
 ·rintro i g l ⟨rfl,⟨u,rfl⟩,d⟩;exists k _ G _ (al.refl e) ?_;show RO RI G _ ((kF b a).map _);rw[show b.length-a-(b.length-a)=0 by lia] at d;rw[<-d];rfl
def Pw(T:Tx P K mg A):Fn P w K mg ah 43 "equation_rows" ["laws"] (bW (RL (RL (RF K))) (RL (RL RI)) (λlaws=>laws.length<=500/\∀a∈laws,a.length=laws.length/\pH a/\∀x∈a,0<x.2/\IntMulOk x.1 (aR a/x.2)) eK):=by
 have aE:=EI w ah T;have aF:=EJ w ah T;refine T.Lu.fn oV bW.aC λf a8 A bc s H vs Q E as h=>?_;obtain⟨G,aB,laws,rfl,aA,an,⟨ba,aW⟩,k⟩:=h;refine⟨_,(au (bo 1 oV.nd (dk j1))
   (au (dY VJ rfl (sN (K:=K) (by rfl) T.rA (a9 ap)) (lp (K:=K) (n:=2) rfl (f_ (bU 2 oV.nd) (f_ (bU 3 oV.nd) lq)))
    (au (bo 4 oV.nd (aL aE as (a9 aZ)))
   (au (sR (i:=5) rfl oV.nd rfl rfl (tu rfl rfl rfl rfl) (gY (K:=K) ap) (hW (own:=[("other",6)]) (by show gC ["laws","rows","k","law","scale","right","other"] (aM zY) _ _=true;decide+kernel)) (λ_ _ _ _ _=>(bU 6 oV.nd)) (λ_ _ _ _ _=>iV) (λ_ _ _ _ _=>az))
   (au (nN bP (nI da aP nT (λ_=>rfl)))
   (aw (dU (lQ K ax (bF sH (aL aF as (aV aZ bP)) da))))))))
   (aw (aJ ax)))),?_⟩
 try simp only[bn]
 refine br [some aB,none,none,none,none,none,none] ?_;exists⟨We _,λl C=>?_⟩;walk_at "go";have af:al H G (ai H l (.aq [])) G:=al.kH aA C;refine r9 (r:=RL (RF K)) (λj F g d=>al H G g d/\d l=none/\(∃ys,g l=some (.aq ys)/\Paired (RL RI d) ys ((eK laws).take j))/\∃W X Y aa ab:b9,F=[some aB,some (.ref l),W,X,Y,aa,ab]) an af.sub
  ⟨af,aA.free C,⟨[],aS,.nil⟩,none,none,none,none,none,rfl⟩ (λj F g d p=>⟨p.1.gs,p.1.sub⟩) ?_ ?_
 ·rintro j a u F g d a6 ad O av ⟨e,B,⟨ys,D,y⟩,W,X,Y,aa,ab,rfl⟩ v;obtain⟨bd,a2,a3⟩:=aW a (Vf O);have ag:=e.trans v;have S:=v.hs _ _ D;have aT:ad l=none:=v.fr l B (by rw[D];exact λb=>nomatch b);have aU:=(Vj.mp O).1;exists dG ad v.sub av a2 λaG aD bf m aY=>?_;subst aY;exists CY (r:=RL (RF K)) (rr:=RI) (λ_=>0) ((ag.trans m).up an) m.sub (dB ⋯) (λ_=>rfl) ?_ ?_
  ·intro L I u x R M bb be a1;exists a1 _ _ _ (al.refl M.sub) rfl
  ·intro L I c ac M z aO ao V;have ay:=nF V;rw[List.map_const'] at ay;exists nq j aO rfl (by rw[ay];simpa using aU) ?_;have a_:c≠l:=λb=>by subst b;rw[m.hs _ _ S] at z;cases z
   have aI:al aG aD (ai L c (.aq (ac.set j (.int (aR a))))) I:=M.eV z ao;have q:=aI.gr z aS ao;generalize aQ:ai I c (.aq (ac.set j (.int (aR a))))=ae at q;generalize a':ai L c (.aq (ac.set j (.int (aR a))))=aH at q;have a4:RL RI ae (.ref c) ((List.replicate laws.length (0:Int)).set j (aR a)):=by rw[<-aQ];refine⟨c,_,rfl,aS,?_⟩;exact Paired.set (show RI _ _ _ from rfl) j (Paired.imp (λ_ _ b=>b) (by rw[List.map_const'] at V;exact V))
   walk_at "go";have ak:aH l=some (.aq ys):=q.hs _ _ (m.hs _ _ S);refine jW ak ?_;exists bT ae q.sub ((m.trans q).up av) rfl ⟨dB ⋯,a3⟩ λa7 J bg t a0=>?_;exists r8 a0 (t.up a4) t.sub ?_ ?_
   ·unfold cS;rw[Vn,WD,Ws];exact WP (dB ⋯)
   intro p us ar aX;have aj:=al.new (o:=.aq us) t.sub ar;have a5:RL RI (ai J p (.aq us)) (.ref p) (kr laws.length j a):=RL.new (t.sub.free ar) aX;have N:=(m.trans q).trans (t.trans aj);have aK:=(t.trans aj).hs _ _ ak;have am:ai J p (.aq us) l=none:=N.fr l aT (by rw[S];exact λb=>nomatch b);exists lM aK ?_ ?_
   ·rw[VP y,V0];exact dB ⋯
   refine⟨ai J p (.aq us),(ag.trans N).eV C am,am,⟨_,aS,?_⟩,_,_,_,_,_,rfl⟩;have aN:(eK laws)[j]? =some (kr laws.length j a):=by unfold eK;rw[Xk,O];rfl
   rw[VU,aN];exact Xw (Paired.imp (λ_ _ b=>Mo.mo (v.trans N).gs b) y) a5
 ·rintro F g d ⟨e,B,⟨ys,D,y⟩,W,X,Y,aa,ab,rfl⟩;rw[VV (by unfold eK;rw[Xt];exact Vm _)] at y;exists k g _ _ (e.gr C D B) (RL.new B y)
def P'(T:Tx P K mg A):Fn P w K mg ah 43 "unknowns_of" ["solved","right"] (b6 (RL (RL RI)) (RL (RF K)) (RL (RF K))
  (λc right=>c.length<=500/\right.length=c.length/\(∀r∈c,r.length=c.length+c.length)/\pH right/\(∀x∈right,0<x.2/\IntMulOk x.1 (aR right/x.2))/\(∀r∈c,∀x∈r,IntMulOk x (aR right)/\∀y∈cS right (aR right),IntMulOk x y)) fD):=by
 have aE:=EI w ah T;have aF:=EJ w ah T;refine T.Mf.fn lv b6.aC λf a' A bg s H vs Q E ar h=>?_;obtain⟨G,az,aA,c,right,rfl,ay,am,an,⟨ba,bc,aK,aW,aX,ao⟩,k⟩:=h;refine⟨_,(au (bo 2 lv.nd (eE K T.eu ap))
   (au (bo 3 lv.nd (aL aE ar (a9 ax)))
   (au (bo 4 lv.nd (aL aF ar (aV ax aZ)))
   (au (bo 5 lv.nd (dk j1))
   (au (dY VJ rfl (sN (K:=K) (by rfl) T.rA (a9 ap)) (lp (K:=K) (n:=2) rfl (f_ (bU 6 lv.nd) (f_ (bU 7 lv.nd) lq)))
    (au (bo 8 lv.nd (sL (BL (K:=K)) (by rfl) T.Br Bz (a9 (j2 rfl lv.nd (E1 (K:=K) (by rfl) T.uk (aV (qh (qx (K:=K)) gZ (lS aP) Fa) bP)) (hW (own:=[("x",9),("y",10)]) (by show gC ["solved","right","count","scale","tops","found","k","row","top","x","y"] (aM Ad) _ _=true;decide+kernel)) (λ_ _ _ _ _=>(lp (K:=K) (n:=2) rfl (f_ (bU 9 lv.nd) (f_ (bU 10 lv.nd) lq)))) (λ_ _ _ _ _=>iV) (λ_ _ _ _ _=>(bF eQ Fu Re))))))
   (aw (dU (lQ K da (dC (aV vW (bF eQ (px K gZ eF) aZ))))))))
   (aw (aJ da))))))),?_⟩
 try simp only[bn]
 refine br [some az,some aA,none,none,none,none,none,none,none,none,none] ?_;exists eZ am ay ?_;exists dG G ay an aW λa8 aD bh M aY=>?_;subst aY;exists bT aD M.sub (M.up an) rfl ⟨dB ⋯,aX⟩ λL J a5 N a0=>?_;exists⟨We _,λl D=>?_⟩;have af:=M.trans N;have ae:al L J (ai L l (.aq [])) J:=al.kH N.sub D;exists r9 (r:=RL RI) (λj I i g=>al L J i g/\g l=none/\(∃ys,i l=some (.aq ys)/\Paired (RF K g) ys ((fD c right).take j))/\∃X Y aa ab ac:b9,I=[some az,some aA,some (.int c.length),some (.int (aR right)),some a5,some (.ref l),X,Y,aa,ab,ac]) (af.up am) ae.sub
  ⟨ae,N.sub.free D,⟨[],aS,.nil⟩,none,none,none,none,none,rfl⟩ (λj I i g p=>⟨p.1.gs,p.1.sub⟩) ?_ ?_
 ·rintro j d u I i g a7 aB V as ⟨e,C,⟨ys,F,t⟩,X,Y,aa,ab,ac,rfl⟩ m;have S:=Vf V;have bd:=aK d S;have bb:=(Vj.mp V).1;have W:=m.hs _ _ F;have aT:aB l=none:=m.fr l C (by rw[F];exact λv=>nomatch v);have ag:=e.trans m;exists M_ as m.sub ⋯ λa_ a6 bi O a1=>?_;exists CZ (r:=RI) (r':=RI) (rr:=RI) (λx y=>x*y) a1 ((ag.trans O).up a0) O.sub (dB (by rw[V9];lia)) (λ_ _=>rfl) ?_ ?_
  ·intro aG ad a b x y R B av aO aQ a4;subst aO aQ;have be:IntMulOk x y:=(ao d S x (List.mem_of_mem_drop (WL av).1)).2 y (WL av).2;exists a4 _ _ _ (al.refl B.sub) rfl
  ·intro aG ad bj B a2;exists C5 a2 B.sub ?_;walk_at "go";have q:=O.trans B;refine jW (q.hs _ _ W) ?_;have aj:d[j]? =some (d.getD j 0):=by rw[Vd,Ve ⋯];rfl
   have bf:IntMulOk (d.getD j 0) (aR right):=(ao d S _ (Vf aj)).1;exists bE j (q.up as) q.sub rfl aj λw a3=>?_;subst a3;exists⟨dh,λp aU=>?_⟩;have aH:=al.new (o:=.aN [.int (List.zipWith (λx y=>x*y) (d.drop c.length) (cS right (aR right))).sum,.int (d.getD j 0*aR right)]) q.sub aU;have fr:RF K (ai ad p (.aN [.int (List.zipWith (λx y=>x*y) (d.drop c.length) (cS right (aR right))).sum,.int (d.getD j 0*aR right)])) (.ref p) (unknown c.length (cS right (aR right)) (aR right) j d):=RF.new (x:=unknown c.length (cS right (aR right)) (aR right) j d);have z:=q.trans aH;have ak:=z.fr l aT (by rw[W];exact λv=>nomatch v);exists lM (z.hs _ _ W) ?_ ?_
   ·rw[VP t,V0];exact dB ⋯
   refine⟨_,(ag.trans z).eV D ak,ak,⟨_,aS,?_⟩,_,_,_,_,_,rfl⟩;have aI:(fD c right)[j]? =some (unknown c.length (cS right (aR right)) (aR right) j d):=by unfold fD;rw[Xk,V];rfl
   rw[VU,aI];exact Xw (Paired.imp (λ_ _ v=>Mo.mo (m.trans z).gs v) t) fr
 ·rintro I i g ⟨e,C,⟨ys,F,t⟩,X,Y,aa,ab,ac,rfl⟩;rw[VV (by unfold fD;rw[Xt];exact Vm _)] at t;exists k i _ _ (af.trans (e.gr D F C)) (RL.new C t)
structure fX(n m:Nat)(rows:a8):Prop where
 aC:rows.length=n
 row:∀r∈rows,r.length=m
def Sv(r:ao):(iY r).length=r.length:=by unfold iY;split<;>simp
def BV{r l:ao}{k m:Nat}(a:r.length=m)(b:l.length=m):(gR r l k).length=m:=by unfold gR;rw[Sv,W9,a,b,Nat.min_self]
def Dz(l:ao)(k:Nat):(fO l k).length=l.length:=by unfold fO;split<;>simp
def eD{a:Type}{l:List a}{i:Nat}{d:a}(h:i<l.length):l.getD i d∈l:=by rw[Vd,Ve h];exact Vs h
def getD_some{a:Type}{l:List a}{i:Nat}{d:a}(h:i<l.length):l[i]? =some (l.getD i d):=by rw[Vd,Ve h];rfl
theorem E7{a:a8}{k:Nat}:∀{f p q:Nat},nJ a k f p=some q->p<=q/\q<p+f/\kZ a q k≠0
 |0,_,_,h=>by cases h
 |f+1,p,q,h=>by
  unfold nJ at h;split at h
  ·cases h;exact⟨Vm _,⋯,by assumption⟩
  ·obtain⟨c,d,b⟩:=E7 h;exact⟨⋯,⋯,b⟩
def vO{a:a8}{k q:Nat}(h:kF a k=some q):k<=q/\q<a.length/\kZ a q k≠0:=by obtain⟨b,d,c⟩:=E7 h;exact⟨b,by omega,c⟩
def fX.qC{n m k p:Nat}{b:a8}(R:fX n m b)(d:k<n)(e:p<n):fX n m (dR b k p):=by
 have c:=R.aC;refine⟨by unfold dR;rw[WD,WD];exact c,λr a=>?_⟩;unfold dR at a;rcases V7 a with h|h
 ·rcases V7 h with h|h
  ·exact R.row r h
  ·subst h;exact R.row _ (eD ⋯)
 ·subst h;rw[Dz];exact R.row _ (eD ⋯)
def BQ(a:a8)(k j:Nat):(i9 a k j).length=a.length:=by unfold i9;rw[Xt]
def mq(a:a8)(k j i:Nat):(i9 a k j)[i]? =(a[i]?).map λr=>if i<j then hX a k i r else r:=by unfold i9;rw[Xk]
def fX.part{n m k j:Nat}{a:a8}(R:fX n m a)(l:k<n):fX n m (i9 a k j):=by
 refine⟨by rw[BQ];exact R.aC,λr g=>?_⟩;obtain⟨i,f,e⟩:=List.mem_iff_getElem.mp g;have q:=mq a k j i;rw[Ve f,e] at q;have o:=R.aC;cases c:a[i]? with
 |none=>rw[c] at q;cases q
 |some d=>
  rw[c] at q;have h:r=if i<j then hX a k i d else d:=Vr q
  have b:=R.row d (Vf c);rw[h];split
  ·unfold hX;split
   ·exact BV b (R.row _ (eD ⋯))
   ·exact b
  ·exact b
def KG(a:a8)(k:Nat):i9 a k 0=a:=by apply List.ext_getElem?;intro i;rw[mq];cases a[i]? <;>simp
def KE{a:a8}{k j:Nat}{r:ao}(h:a[j]? =some r):(i9 a k j).set j (hX a k j r)=i9 a k (j+1):=by
 apply List.ext_getElem?;intro i;rw[List.getElem?_set,mq,mq,BQ];by_cases b:j=i
 ·subst b;rw[Vh rfl,h,Vh (Vj.mp h).1];simp
 ·rw[Vg b];have e:(i<j+1)=(i<j):=propext ⟨λ_=>⋯,λ_=>⋯⟩;simp only[e]
def KD{a:a8}{k j:Nat}{r:ao}(h:a[j]? =some r)(c:hX a k j r=r):i9 a k (j+1)=i9 a k j:=by
 apply List.ext_getElem?;intro i;rw[mq,mq];by_cases b:j=i
 ·subst b;rw[h];simp[c]
 ·have e:(i<j+1)=(i<j):=propext ⟨λ_=>⋯,λ_=>⋯⟩;simp only[e]
def KA{a:a8}{k j:Nat}{r:ao}(h:a[j]? =some r):(i9 a k j)[j]? =some r:=by rw[mq,h];simp
def xQ{a:a8}{k:Nat}{r:ao}:hX a k k r=r:=by unfold hX;simp
def KC{a:a8}{k j:Nat}{r:ao}(h:a[k]? =some r):(i9 a k j)[k]? =some r:=by rw[mq,h];simp[xQ]
def ML{n m k:Nat}{a c:a8}(R:fX n m a)(d:k<n)(h:elim a k=some c):fX n m c:=by
 unfold elim at h;cases b:kF a k with
 |none=>rw[b] at h;cases h
 |some p=>rw[b] at h;have h':jR (dR a k p) k=c:=Vr h;rw[<-h'];have:=vO b;have e:=R.aC;exact(R.qC d ⋯).part d
theorem tf{n m:Nat}{b:a8}(R:fX n m b):∀{k:Nat}{a:a8},k<=n->fS b k=some a->fX n m a
 |0,a,_,h=>by have h':b=a:=Vr h;rw[<-h'];exact R
 |k+1,a,d,h=>by
  unfold fS at h;cases c:fS b k with
  |none=>rw[c] at h;cases h
  |some e=>rw[c] at h;exact ML (tf R ⋯ c) ⋯ h
theorem HW{a:a8}:∀{d k:Nat},fS a k=none->fS a (k+d)=none
 |0,k,h=>h
 |d+1,k,h=>by show(fS a (k+d)).bind _=none;rw[HW h];rfl
def xr(a:a8):Prop:=∀k b,k<=a.length->fS a k=some b->∀r∈b,∀x∈r,Sz x
def Sz.neg{x:Int}(h:Sz x):Sz (-x):=intBits_neg_le h
def N4{l:ao}{k:Nat}(h:∀x∈l,Sz x):∀x∈fO l k,Sz x:=by
 unfold fO;split
 ·exact h
 ·intro x a;obtain⟨y,b,rfl⟩:=Vz.mp a;exact(h y b).neg
def S'{a:a8}{k p:Nat}(c:k<a.length)(d:p<a.length)(h:∀r∈a,∀x∈r,Sz x):∀r∈dR a k p,∀x∈r,Sz x:=by
 intro r b;unfold dR at b;rcases V7 b with q|q
 ·rcases V7 q with q|q
  ·exact h r q
  ·subst q;exact h _ (eD c)
 ·subst q;exact N4 (h _ (eD d))
def P9(T:Tx P K mg A):Fn P w K mg ah 44 "solve" ["rows"] (bW (RL (RL RI)) (RO (RL (RL RI))) (λq=>∃n m,fX n m q/\n<=m/\m<=1000/\xr q) solve):=by
 have bF:=PZ w ah T;have bD:=Ps w ah T;refine T.Md.fn nS bW.aC λf ck A cw s H vs Q E aG h=>?_;obtain⟨G,ae,q,rfl,a3,bN,⟨n,m,a8,cm,bQ,bR⟩,k⟩:=h
 refine⟨_,(au (bo 1 nS.nd (EY (BK (K:=K)) (by rfl) T.Bq By (a9 ap)))
   (au (dY VJ rfl (lR (by rfl) T.hR (a9 (eE K T.eu ax))) (bU 2 nS.nd)
    (au (bo 3 nS.nd (aL bF aG (aV ax aP)))
   (au (a_ (bg lh aZ d7)
    (aw (aJ d7))
    bx)
   (au (bo 4 nS.nd (px K ax aZ))
   (au (nN (px K ax aP) (nI ax aZ nT (λ_=>rfl)))
   (au (nN (sM (bg iT (px K bP aP) az) bP (j2 rfl nS.nd (gY (K:=K) bP) (hW (own:=[("x",5)]) (by show gC ["rows","solved","k","pivot","lead","x","other"] (aM Ac) _ _=true;decide+kernel)) (λ_ _ _ _ _=>(bU 5 nS.nd)) (λ_ _ _ _ _=>iV) (λ_ _ _ _ _=>(gX g9 da)))) (nI ax aP nT (λ_=>rfl)))
   (aw (dY VJ rfl (lR (by rfl) T.hR (a9 (eE K T.eu ax))) (bU 6 nS.nd)
    (aw (a_ ((nO (bg jf eF aP) (nP (bg jf (px K (px K ax eF) aP) az)))).pt
    (aw (nN (aL bD aG (bZ (px K ax eF) (px K ax aP) aP)) (nI ax eF nT (λ_=>rfl))))
    bx))))))))))
   (aw (aJ ax)))),?_⟩
 try simp only[bn]
 refine br [some ae,none,none,none,none,none,none] ?_;obtain⟨F,us,rfl,bS,bp⟩:=bN;have aW:q.length=n:=a8.aC;have b1:us.length=n:=by rw[VP bp];exact aW
 exists⟨F,us,rfl,.inl (aT.of (a3 _ _ bS)),λl ac=>?_⟩;exists C2 aS ?_;rw[b1];exists⟨n,rfl,⋯,⋯,?_⟩;rw[VE];have bH:al H G (ai H l (.aq us)) G:=al.kH a3 ac;refine mB (G:=G) (λj W i d=>al H G i d/\d l=none/\(∃ys a,i l=some (.aq ys)/\Paired (RL RI d) ys a/\fS q j=some a)/\∃N O S v g:b9,W=[some (.ref F),some (.ref l),N,O,S,v,g])
  ⟨bH,a3.free ac,⟨us,q,aS,bp,rfl⟩,none,none,none,none,none,rfl⟩ ?_ ?_
 ·rintro j W i d cl ⟨e,ab,⟨ys,a,aH,L,ad⟩,N,O,S,v,g,rfl⟩;have ar:fX n m a:=tf a8 ⋯ ad;have ce:=bR j a ⋯ ad;have b0:=ar.aC;have cu:ys.length=n:=by rw[VP L];exact b0
  rw[show(0:Int)+(j:Int)=(j:Int) by lia];walk_at "go";have b_:aB (ai d l (.aq ys)) i:=λb o aE=>by
   by_cases bi:b=l
   ·subst bi;rw[aS] at aE;rw[<-aE];exact aH
   ·rw[bA bi] at aE;exact e.sub b o aE
  refine bT (ai d l (.aq ys)) b_ (RL.new ab L) rfl ⟨⋯,⋯,⋯,λr aG=>by have:=ar.row r aG;lia⟩ λag bC ae ba z=>?_;have bI:al i d ag d:=al.O4 e.sub ba.hs;have bb:=e.trans bI;have a1:=ba.hs _ _ aH
  replace z:RO RI bC ae ((kF a j).map λp:Nat=>(p:Int)):=z
  cases am:kF a j with
  |none=>
   rw[am] at z
   replace z:ae=.aO:=z
   subst z;walk_at "go";rw[Vh (by simp)];exists k ag d _ bb ?_;have:solve q=none:=by unfold solve;rw[aW,show n=(j+1)+(n-(j+1)) by lia];refine HW ?_;show(fS q j).bind _=none;rw[ad];show elim a j=none;unfold elim;rw[am];rfl
   rw[this];rfl
  |some p=>
   rw[am] at z;obtain⟨_,z⟩:ae≠ .aO/\ae=.int (p:Int):=z;subst z;obtain⟨co,bV,cp⟩:=vO am;walk_at "go";rw[Vg (by simp)];walk_at "go";have bd:a[p]? =some (a.getD p []):=getD_some bV;obtain⟨an,b6,a2⟩:=Paired.get L bd;have bL:a[j]? =some (a.getD j []):=getD_some ⋯;obtain⟨B,b4,cc⟩:=Paired.get L bL;refine kz p a1 rfl b6 ?_;exists kz j a1 rfl b4 ?_;exists nq p a1 rfl ⋯ ?_;have aU:ai ag l (.aq (ys.set p B)) l=some (.aq (ys.set p B)):=aS;have aj:al H G (ai ag l (.aq (ys.set p B))) d:=bb.eV ac ab;generalize ai ag l (.aq (ys.set p B))=a6 at aU aj;have cv:=ar.row _ (Vf bd);have bK:(a.getD p [])[j]? =some ((a.getD p []).getD j 0):=getD_some ⋯;exists bE j a2 aj.sub rfl bK λu aY=>?_;subst aY;walk_at "go";have bz:∀(X J:Hp)(C:V),al a6 d X J->RL RI J C (fO (a.getD p []) j)->
     uQ (cQ 1) (cQ 2) vX C [some (.ref F),some (.ref l),some (.int (j:Int)),some (.int (p:Int)),some an,v,g] X
      (AJ (yq (dD (qE (qj K) (dD (cQ 1) eU)) eU)) (dA 6)
       (tz (AH (ph (gu mQ (cQ 6) (cQ 2))) (ph (gu mQ (gu (iC K) (gu (iC K) (cQ 1) (cQ 6)) (cQ 2)) (tC (.int 0)))))
        (qD (lX (eG (RL RI) (RL RI) RI (RL RI) (λr l k=>∃m,tU m r/\tU m l/\m<=1000/\0<=k/\k<m) λr l k=>gR r l k.toNat) [] E0 (dD (gu (iC K) (cQ 1) (cQ 6)) (dD (gu (iC K) (cQ 1) (cQ 2)) (dD (cQ 2) eU)))) (uQ (cQ 1) (cQ 6) vX)) qG)
       {nx:=λa4 af=>∃t,al H G af t/\t l=none/\(∃ys a,af l=some (.aq ys)/\Paired (RL RI t) ys a/\fS q (j+1)=some a)/\∃N O S v g:b9,a4=[some (.ref F),some (.ref l),N,O,S,v,g]
        rt:=Q
        bk:=(qH (cQ 1) {nx:=λx i=>Q V.aO i,rt:=Q})
        ct:=λa4 af=>∃t,al H G af t/\t l=none/\(∃ys a,af l=some (.aq ys)/\Paired (RL RI t) ys a/\fS q (j+1)=some a)/\∃N O S v g:b9,a4=[some (.ref F),some (.ref l),N,O,S,v,g]}):=by
    intro X J C ak b2;have bO:=ak.hs _ _ aU;have bj:J l=none:=ak.fr l ab (by rw[aU];exact λy=>nomatch y);exists nq j bO rfl (by rw[WD];lia) ?_;have as:fX n m (dR a j p):=ar.qC ⋯ ⋯;have bw:=S' (k:=j) (p:=p) ⋯ ⋯ ce;have bm:=as.aC;have bc:al H G (ai X l (.aq ((ys.set p B).set j C))) J:=(aj.trans ak).eV ac bj;have aD:ai X l (.aq ((ys.set p B).set j C)) l=some (.aq ((ys.set p B).set j C)):=aS;have aX:Paired (RL RI J) ((ys.set p B).set j C) (dR a j p):=by unfold dR;exact Paired.set b2 j (Paired.set (Mo.mo ak.gs cc) p (Paired.imp (λ_ _ y=>Mo.mo ak.gs y) L))
    generalize ai X l (.aq ((ys.set p B).set j C))=ci at aD bc;generalize (ys.set p B).set j C=bB at aD aX;have b7:bB.length=n:=by rw[VP aX];exact bm
    exists C2 aD ?_;rw[b7];exists⟨n,rfl,⋯,⋯,?_⟩;rw[VE];refine mB (G:=J) (λo W i d=>al H G i d/\d l=none/\(∃ys,i l=some (.aq ys)/\Paired (RL RI d) ys (i9 (dR a j p) j o))/\∃g:b9,W=[some (.ref F),some (.ref l),some (.int (j:Int)),some (.int (p:Int)),some an,v,g])
     ⟨bc,bj,⟨bB,aD,by rw[KG];exact aX⟩,g,rfl⟩ ?_ ?_
    ·rintro o W aN ao cn ⟨Y,aF,⟨aI,D,M⟩,cf,rfl⟩;rw[show(0:Int)+(o:Int)=(o:Int) by lia];have bG:=as.part (k:=j) (j:=o) ⋯;have cq:aI.length=n:=by rw[VP M];exact bG.aC
     have aa:(dR a j p)[o]? =some ((dR a j p).getD o []):=getD_some ⋯;have aA:(dR a j p)[j]? =some ((dR a j p).getD j []):=getD_some ⋯;have be:=KA (k:=j) aa;have bh:=KC (j:=o) aA;generalize cr:(dR a j p).getD o []=I at aa be;generalize bY:(dR a j p).getD j []=bs at aA bh;have ca:=as.row _ (Vf aa);have b':=as.row _ (Vf aA);obtain⟨cy,bq,bt⟩:=Paired.get M be;obtain⟨cx,b5,cd⟩:=Paired.get M bh;have bM:I[j]? =some (I.getD j 0):=getD_some ⋯;have bu:hX (dR a j p) j o I=I->∃t,al H G aN t/\t l=none/\(∃ys,aN l=some (.aq ys)/\Paired (RL RI t) ys (i9 (dR a j p) j (o+1)))/\∃g:b9,[some (.ref F),some (.ref l),some (.int (j:Int)),some (.int (p:Int)),some an,v,some (.int (o:Int))]=[some (V.ref F),some (.ref l),some (.int (j:Int)),some (.int (p:Int)),some an,v,g]:=λc=>⟨ao,Y,aF,⟨aI,D,by rw[KD aa c];exact M⟩,_,rfl⟩
     walk_at "go";by_cases a':(o:Int)=(j:Int)
     ·have aQ:o=j:=by lia
      rw[Vg (by simp[a'])];rw[Vg (by simp)];exists bu (by subst aQ;exact xQ)
     ·have aQ:o≠j:=by lia
      rw[Vh (by simp[a'])];exists kz o D rfl bq ?_;exists bE j bt Y.sub rfl bM λu aY=>?_;subst aY;walk_at "go";by_cases av:I.getD j 0=0
      ·rw[Vg (lI av)];exists bu (by unfold hX;rw[Vg (λy=>y.2 av)])
      ·rw[Vh (kW av)];exists kz o D rfl bq ?_;exists kz j D rfl b5 ?_;exists gU ao Y.sub bt cd rfl ⟨m,⟨ca,bw _ (Vf aa)⟩,⟨b',bw _ (Vf aA)⟩,bQ,⋯,⋯⟩ λcj aK cg ay a0=>?_
       replace a0:RL RI aK cg (gR I bs j):=a0
       have bl:aK l=none:=ay.fr l aF (by rw[D];exact λy=>nomatch y);have bX:=ay.hs _ _ D;exists nq o bX rfl ⋯ ?_;refine⟨aK,(Y.trans ay).eV ac bl,bl,⟨_,aS,?_⟩,_,rfl⟩;have bJ:hX (dR a j p) j o I=gR I bs j:=by unfold hX;rw[Vh ⟨aQ,av⟩,bY]
       rw[<-KE aa,bJ];exact Paired.set a0 o (Paired.imp (λ_ _ y=>Mo.mo ay.gs y) M)
    ·rintro W aN ao ⟨Y,aF,⟨aI,D,M⟩,cf,rfl⟩;refine⟨ao,Y,aF,⟨aI,_,D,M,?_⟩,_,_,_,_,_,rfl⟩;show(fS q j).bind _=_;rw[ad];show elim a j=_;unfold elim jR;rw[am, <-bm];rfl
   by_cases c:0<(a.getD p []).getD j 0
   ·refine bv c ?_;refine C6 ?_;exact bz a6 d an (al.refl aj.sub) (by unfold fO;rw[Vh c];exact a2)
   ·refine bf c ?_;exists pX (r:=RI) (rr:=RI) (λx=> -x) a2 aj.sub (dB ⋯) (λ_=>rfl) ?_ ?_
    ·intro a7 a5 u x R aR cs cb b8;subst cb;exists b8 _ _ _ (al.refl aR.sub) rfl
    ·intro a7 a5 ch aR b3;exact bz a7 a5 ch aR (by unfold fO;rw[Vg c];exact b3)
 ·rintro W i d ⟨e,ab,⟨ys,a,aH,L,ad⟩,N,O,S,v,g,rfl⟩;exists k i _ _ (e.gr ac aH ab) ?_;have:solve q=some a:=by unfold solve;rw[aW];exact ad
  rw[this];exact⟨(λy=>nomatch y),RL.new ab L⟩
def EC(T:Tx P K mg A):Fn P w K mg ah 41 "has_wave" ["kind"] (bW RI RB (λ_=>True) dg):=by
 refine T.Lz.fn R9 bW.aC λf e A j s H vs Q E g h=>?_;obtain⟨G,d,i,rfl,c,a,_,k⟩:=h;refine⟨_,(aw (aJ (oR (nE (K:=K)) ap (dC (aV (aY T.Kj) (aY T.BF))) rfl))),?_⟩
 try simp only[bn]
 refine br [some d] ?_;subst a;exists⟨by show 2<=sizeLine;decide,λp b=>oI [4,5] (bi.of aS) ?_⟩;exact k _ _ _ (al.new c b) rfl
def EB(T:Tx P K mg A):Fn P w K mg ah 41 "has_four_nodes" ["kind"] (bW RI RB (λ_=>True) iQ):=by
 refine T.Ly.fn R8 bW.aC λf e A j s H vs Q E g h=>?_;obtain⟨G,d,i,rfl,c,a,_,k⟩:=h;refine⟨_,(aw (aJ (oR (nE (K:=K)) ap (dC (f9 (aY T.Ki) (bZ (aY T.BE) (aY T.ux) (aY T.uv)))) rfl))),?_⟩
 try simp only[bn]
 refine br [some d] ?_;subst a;exists⟨by show 4<=sizeLine;decide,λp b=>oI [6,7,10,11] (bi.of aS) ?_⟩;exact k _ _ _ (al.new c b) rfl
def EA(T:Tx P K mg A):Fn P w K mg ah 41 "follows_current" ["kind"] (bW RI RB (λ_=>True) gG):=by
 refine T.Lw.fn R7 bW.aC λf e A j s H vs Q E g h=>?_;obtain⟨G,d,i,rfl,c,a,_,k⟩:=h;refine⟨_,(aw (aJ (oR (nE (K:=K)) ap (dC (aV (aY T.Kh) (aY T.BD))) rfl))),?_⟩
 try simp only[bn]
 refine br [some d] ?_;subst a;exists⟨by show 2<=sizeLine;decide,λp b=>oI [8,9] (bi.of aS) ?_⟩;exact k _ _ _ (al.new c b) rfl
def ED(T:Tx P K mg A):Fn P w K mg ah 41 "is_kept" ["kind"] (bW RI RB (λ_=>True) cT):=by
 refine T.B5.fn Hx bW.aC λf e A j s H vs Q E g h=>?_;obtain⟨G,d,i,rfl,c,a,_,k⟩:=h;refine⟨_,(aw (aJ (oR (nE (K:=K)) ap (dC (aV (aY T.pN) (aY T.pO))) rfl))),?_⟩
 try simp only[bn]
 refine br [some d] ?_;subst a;exists⟨by show 2<=sizeLine;decide,λp b=>oI [1,2] (bi.of aS) ?_⟩;exact k _ _ _ (al.new c b) rfl
def P_(T:Tx P K mg A):Fn P w K mg ah 41 "tells_current" ["kind"] (bW RI RB (λ_=>True) pj):=by
 refine T.Me.fn Sk bW.aC λf e A j s H vs Q E g h=>?_;obtain⟨G,d,i,rfl,c,a,_,k⟩:=h;refine⟨_,(aw (aJ (oR (nE (K:=K)) ap (dC (f9 (aY T.pN) (bZ (aY T.BF) (aY T.BE) (aY T.BD)))) rfl))),?_⟩
 try simp only[bn]
 refine br [some d] ?_;subst a;exists⟨by show 4<=sizeLine;decide,λp b=>oI [1,5,7,9] (bi.of aS) ?_⟩;exact k _ _ _ (al.new c b) rfl
def Pt(T:Tx P K mg A):Fn P w K mg ah 41 "currents_of" ["kind"] (bW RI RI (λ_=>True) gm):=by
 refine T.Lq.fn R4 bW.aC λf g A l s H vs Q E j h=>?_;obtain⟨G,e,i,rfl,c,d,_,k⟩:=h;refine⟨_,(au (a_ (bg cp ap (aY T.lH))
    (aw (aJ az))
    bx)
   (aw (aJ (sM (bg cp ap (aY T.ux)) az az)))),?_⟩
 try simp only[bn]
 refine br [some e] ?_;subst d;walk_at "go";by_cases a:i=3
 ·refine bv a ?_;exists k _ _ _ (al.refl c) (by unfold gm;rw[Vh a];rfl)
 ·refine bf a ?_;walk_at "go";by_cases b:i=10
  ·refine bv b ?_;exists k _ _ _ (al.refl c) (by unfold gm;rw[Vg a,Vh b];rfl)
  ·refine bf b ?_;exists k _ _ _ (al.refl c) (by unfold gm;rw[Vg a,Vg b];rfl)
def EE(T:Tx P K mg A):Fn P w K mg ah 41 "is_number" ["top","bottom"] (b6 RI RI RB (λ_ _=>True) cO):=by
 refine T.LF.fn R' b6.aC λf n A p s H vs Q E o h=>?_;obtain⟨G,l,m,g,b,rfl,e,i,j,_,k⟩:=h;refine⟨_,(aw (aJ (lj (ff lP (gX g9 (aY T.rC)) ap) (lj (ff lP ap (aY T.rC)) (lj (ff lP az ax) (nH (ff lP ax (aY T.rC)))))))),?_⟩
 try simp only[bn]
 refine br [some l,some m] ?_;subst i j;walk_at "go";by_cases a: -1000000<=g
 ·refine bv a ?_;walk_at "go";by_cases c:g<=1000000
  ·refine bv c ?_;walk_at "go";by_cases d:1<=b
   ·refine bv d ?_;exists k _ _ _ (al.refl e) (by unfold cO;rw[Vx a,Vx c,Vx d];rfl)
   ·refine bf d ?_;exact k _ _ _ (al.refl e) (by unfold cO;rw[VF d];simp[RB])
  ·refine bf c ?_;exact k _ _ _ (al.refl e) (by unfold cO;rw[VF c];simp[RB])
 ·refine bf a ?_;exact k _ _ _ (al.refl e) (by unfold cO;rw[VF a];simp[RB])
def PH(T:Tx P K mg A):Fn P w K mg ah 42 "is_part" ["row"] (bW (RL RI) RB (λl=>l.length=7) gW):=by
 have N:=EE w ah T;refine T.LG.fn Hy bW.aC λf af A ai s H vs Q E X h=>?_;obtain⟨G,J,l,rfl,m,i,ag,k⟩:=h;refine⟨_,(au (a_ ((j5 (bg mO (px K ap az) az) (lT (bg iT (px K ap az) (aY T.pP))))).pt
    (aw (aJ ic))
    bx)
   (au (dY VJ rfl (gY (K:=K) (qh (qx (K:=K)) ap (lS az) (lS az))) (bU 1 Hy.nd)
    (aw (a_ ((j5 (bg mO ax az) (lT (bg iT ax (aY T.J9))))).pt
    (aw (aJ ic))
    bx)))
   (aw (aJ (aL N X (aV (px K ap az) (px K ap az))))))),?_⟩
 try simp only[bn]
 refine br [some J,none] ?_;have B:l[0]? =some (l.getD 0 0):=getD_some ⋯;have S:l[5]? =some (l.getD 5 0):=getD_some ⋯;have V:l[6]? =some (l.getD 6 0):=getD_some ⋯;exists bE 0 i m rfl B λu c=>?_;subst c;walk_at "go";by_cases g:l.getD 0 0<0
 ·refine bv g ?_;exists k _ _ _ (al.refl m) (by unfold gW;rw[Vx g];rfl)
 refine bf g ?_;exists bE 0 i m rfl B λu c=>?_;subst c;walk_at "go";by_cases o:13<l.getD 0 0
 ·refine bv o ?_;exists k _ _ _ (al.refl m) (by unfold gW;rw[VF g,Vx o];rfl)
 refine bf o ?_;have D:gW l=(((l.drop 1).take 4).all k_&&cO (l.getD 5 0) (l.getD 6 0)):=by unfold gW;rw[VF g,VF o];rfl
 exists yf (a:=1) (b:=5) i m ∅ λae L aj C Y=>?_;refine mz (r:=RI) (λj y n d=>al H G n d/\aB L d/\((((l.drop 1).take 4).take j).all k_=true)/\∃u:b9,y=[some J,u]) Y C.sub ⟨C,aB.refl _,by simp,none,rfl⟩ (λj y n d p=>⟨p.2.1,p.1.sub⟩) ?_ ?_
 ·rintro j x u y n d I c ⟨e,F,v,ac,rfl⟩;subst c;walk_at "go";have z:k_ x=false->RB d (.bl false) (gW l):=λW=>by
   rw[D];have:((l.drop 1).take 4).all k_=false:=by rw[<-W7,VO];intro ad;have:=ad x (Vf I);rw[W] at this;cases this
   rw[this];rfl
  by_cases q:x<0
  ·refine bv q ?_;exists k _ _ _ e (z (by unfold k_;rw[Vx q];rfl))
  refine bf q ?_;walk_at "go";by_cases t:63<x
  ·refine bv t ?_;exists k _ _ _ e (z (by unfold k_;rw[Vx t];simp))
  refine bf t ?_;exists⟨d,e,F,?_,_,rfl⟩;rw[VU,I,Xs,v];simp[k_,q,t]
 ·rintro y n d ⟨e,F,v,ac,rfl⟩;rw[Wj] at v;exists bE 5 (e.up i) e.sub rfl S λu c=>?_;subst c;exists bE 6 (e.up i) e.sub rfl V λu c=>?_;subst c;exists bT d e.sub rfl rfl trivial λO M ab R aa=>k O M ab (e.trans R) ?_;rw[D,v];exact aa
def ua:Hp->aQ->cJ->Prop:=λG us p=>∃v l,us=[v]/\RL RI G v l/\l.length=7/\p=ji l
def O8(T:Tx P K mg A):kL P w K mg ah 41 A.dF ["self","row"] (oZ A.dF ua (pF K A)):=by
 refine T.K0.fn RH (by rintro vs H Q E ⟨_,_,_,_,_,rfl,_,_,_,⟨_,_,rfl,_⟩,_⟩;rfl) λf aG aE aK s H vs Q E aJ h=>?_;obtain⟨G,x,a,_,_,rfl,aa,d,O,⟨aC,l,rfl,e,aI,rfl⟩,k⟩:=h;obtain⟨aB,ev⟩:∃v,v=V.ref x:=⟨_,rfl⟩
 rw[<-ev];refine⟨_,(au (cY K ap (px K ax az))
   (au (cY K ap (px K ax az))
   (au (cY K ap (px K ax az))
   (au (cY K ap (px K ax az))
   (au (cY K ap (px K ax az))
   (aw (cY K ap (dC (aV (px K ax az) (px K ax az)))))))))),?_⟩
 try simp only[bn]
 refine br [some aB,some aC] ?_;subst ev;have ae:l[0]? =some (l.getD 0 0):=getD_some ⋯;have af:l[1]? =some (l.getD 1 0):=getD_some ⋯;have ag:l[2]? =some (l.getD 2 0):=getD_some ⋯;have aj:l[3]? =some (l.getD 3 0):=getD_some ⋯;have ak:l[4]? =some (l.getD 4 0):=getD_some ⋯;have am:l[5]? =some (l.getD 5 0):=getD_some ⋯;have an:l[6]? =some (l.getD 6 0):=getD_some ⋯;have aL:=bG.put (o':=.aA A.dF a []) aa O d;exists bE 0 e aa rfl ae λu b=>?_;subst b;exists cX O T.kD T.Ea (by show 0<1000;decide) ?_;have S:(aD "kind" (V.int (l.getD 0 0)) []).length<=1:=iB (by simp);have B:bG x H G (ai H x (.aA A.dF a (aD "kind" (V.int (l.getD 0 0)) []))) G:=bG.put aa O d;have n:ai H x (.aA A.dF a (aD "kind" (V.int (l.getD 0 0)) [])) x=some (.aA A.dF a (aD "kind" (V.int (l.getD 0 0)) [])):=aS;generalize ai H x (.aA A.dF a (aD "kind" (V.int (l.getD 0 0)) []))=I at n B ⊢;generalize ao:(aD "kind" (V.int (l.getD 0 0)) [])=g at n S ⊢;exists bE 1 e B.sub rfl af λu b=>?_;subst b;exists cX n T.kD T.D8 (Vl S ∅) ?_;have W:(aD "a" (V.int (l.getD 1 0)) g).length<=2:=iB (by exact S);have C:bG x H G (ai I x (.aA A.dF a (aD "a" (V.int (l.getD 1 0)) g))) G:=B.trans (bG.put B.sub n d) (by rw[n];exact λc=>nomatch c);have q:ai I x (.aA A.dF a (aD "a" (V.int (l.getD 1 0)) g)) x=some (.aA A.dF a (aD "a" (V.int (l.getD 1 0)) g)):=aS;generalize ai I x (.aA A.dF a (aD "a" (V.int (l.getD 1 0)) g))=J at q C ⊢;generalize aq:(aD "a" (V.int (l.getD 1 0)) g)=i at q W ⊢;exists bE 2 e C.sub rfl ag λu b=>?_;subst b;exists cX q T.kD T.D9 (Vl W ∅) ?_;have X:(aD "b" (V.int (l.getD 2 0)) i).length<=3:=iB (by exact W);have D:bG x H G (ai J x (.aA A.dF a (aD "b" (V.int (l.getD 2 0)) i))) G:=C.trans (bG.put C.sub q d) (by rw[q];exact λc=>nomatch c);have r:ai J x (.aA A.dF a (aD "b" (V.int (l.getD 2 0)) i)) x=some (.aA A.dF a (aD "b" (V.int (l.getD 2 0)) i)):=aS;generalize ai J x (.aA A.dF a (aD "b" (V.int (l.getD 2 0)) i))=L at r D ⊢;generalize ar:(aD "b" (V.int (l.getD 2 0)) i)=j at r X ⊢;exists bE 3 e D.sub rfl aj λu b=>?_;subst b;exists cX r T.kD T.D_ (Vl X ∅) ?_;have Y:(aD "c" (V.int (l.getD 3 0)) j).length<=4:=iB (by exact X);have F:bG x H G (ai L x (.aA A.dF a (aD "c" (V.int (l.getD 3 0)) j))) G:=D.trans (bG.put D.sub r d) (by rw[r];exact λc=>nomatch c);have t:ai L x (.aA A.dF a (aD "c" (V.int (l.getD 3 0)) j)) x=some (.aA A.dF a (aD "c" (V.int (l.getD 3 0)) j)):=aS;generalize ai L x (.aA A.dF a (aD "c" (V.int (l.getD 3 0)) j))=M at t F ⊢;generalize as:(aD "c" (V.int (l.getD 3 0)) j)=m at t Y ⊢;exists bE 4 e F.sub rfl ak λu b=>?_;subst b;exists cX t T.kD T.D' (Vl Y ∅) ?_;have ac:(aD "d" (V.int (l.getD 4 0)) m).length<=5:=iB (by exact Y);have z:bG x H G (ai M x (.aA A.dF a (aD "d" (V.int (l.getD 4 0)) m))) G:=F.trans (bG.put F.sub t d) (by rw[t];exact λc=>nomatch c);have y:ai M x (.aA A.dF a (aD "d" (V.int (l.getD 4 0)) m)) x=some (.aA A.dF a (aD "d" (V.int (l.getD 4 0)) m)):=aS;generalize ai M x (.aA A.dF a (aD "d" (V.int (l.getD 4 0)) m))=aF at y z ⊢;generalize av:(aD "d" (V.int (l.getD 4 0)) m)=aH at y ac ⊢;exists bE 5 e z.sub rfl am λu b=>?_;subst b;exists bE 6 e z.sub rfl an λu b=>?_;subst b;exists⟨dh,λp ay=>?_⟩;have N:=al.new (o:=.aN [.int (l.getD 5 0),.int (l.getD 6 0)]) z.sub ay;have R:=N.hs _ _ y;have ab:ai G p (.aN [.int (l.getD 5 0),.int (l.getD 6 0)]) x=none:=N.fr x d (by rw[y];exact λc=>nomatch c);have ad:=z.trans N.x (by rw[y];exact λc=>nomatch c);exists cX R T.kD T.Eb (Vl ac ∅) ?_;refine k _ _ _ (ad.trans (bG.put ad.sub R ab) (by rw[R];exact λc=>nomatch c)) aS ab ?_;subst av as ar aq ao;refine⟨⟨_,by walk_at "lk",rfl⟩,⟨_,by walk_at "lk",rfl⟩,⟨_,by walk_at "lk",rfl⟩,⟨_,by walk_at "lk",rfl⟩,⟨_,by walk_at "lk",rfl⟩,⟨_,by walk_at "lk",?_⟩⟩;exact RF.new (x:=(l.getD 5 0,l.getD 6 0))
def rX{i:Int}(h: -1000000<=i)(h':i<=1000000):Builtin.Range.rangeFitsLong i=true:=by unfold Builtin.Range.rangeFitsLong;rw[Vx (show-(2^63)<=i by lia),Vx (show i<2^63 by lia)];rfl
def FM{i j c:Int}{n:Nat}(b:0<=i/\i<=100000)(d:0<=j/\j<=100000)(a:0<c/\c<=100)(f:n<=100000)(e:Builtin.Range.rangeSize i j c=n):q_ i j c n:=by refine⟨⋯,⋯,?_,e⟩;unfold Builtin.Range.small;rw[e,Vh a.1,rX ⋯ ⋯,rX ⋯ ⋯,rX ⋯ ⋯,rX ⋯ ⋯,rX ⋯ ⋯,Bool.or_true];rfl
def FL{n m:Nat}(h:n=7*m+1)(a:m<=1000):q_ 1 (n:Int) 7 m:=by refine FM ⋯ ⋯ ⋯ ⋯ ?_;unfold Builtin.Range.rangeSize;rw[Vh ∅];split<;>lia
def zP{i j n:Nat}(h:j=i+2*n\/(j=i+2*n-1/\0<n))(a:j<=100000):q_ (i:Int) (j:Int) 2 n:=by refine FM ⋯ ⋯ ⋯ ⋯ ?_;unfold Builtin.Range.rangeSize;rw[Vh ∅];split<;>lia
def HP{net:ao}{j m:Nat}(h:net.length=7*m+1)(a:j<m):(seven net j).length=7:=by unfold seven;rw[V0,V9];lia
def PY(T:Tx P K mg A):Fn P w K mg ah 43 "parts_of" ["net"] (bW (RL RI) (RL (dH K A)) (λnet=>∃m,net.length=7*m+1/\m<=10) bC):=by
 have q:=O8 w ah T;refine T.LY.fn Ap bW.aC λf S J Y s H vs Q E z h=>?_;obtain⟨G,I,net,rfl,n,a,⟨m,i,X⟩,k⟩:=h;refine⟨_,(aw (aJ (j2 rfl Ap.nd (sO (by rfl) T.hR (bZ az (eE K T.eu ap) (aY T.pR))) (hW (own:=[("at",1)]) (by show gC ["net","at"] (aM z_) _ _=true;decide+kernel)) (λ_ _ _ _ _=>(bU 1 Ap.nd)) (λ_ _ _ _ _=>iV) (λ_ _ _ _ _=>(nG q T.Om z (a9 (qh (qx (K:=K)) ap (lS ax) (lS (bF je ax (aY T.pR)))))))))),?_⟩
 try simp only[bn]
 refine br [some I,none] ?_;exists eZ a n ?_;exists⟨1,(net.length:Int),7,m,rfl,FL i ⋯,?_⟩;refine oK (rr:=dH K A) (G:=G) m (λj=>1+(j:Nat)*7) (λj=>(List.range j).map λj=>ji (seven net j)) n (by simp) (λj g=>by rw[Vn,Wz];exact dB ⋯) (λ_ _ h=>h) (λ_=>Vm _) (λ_ _ _ _ h=>h) (λ_=>rfl) ?_ ?_
 ·intro j b o C L g e v _;walk_at "go";walk_at "go";rw[show(1:Int)+(j:Nat)*7+7=((1+7*j+7:Nat):Int) by lia,show(1:Int)+(j:Nat)*7=((1+7*j:Nat):Int) by lia];refine yf (e.up a) e.sub ⋯ λO p F c l=>?_;rw[show 1+7*j+7-(1+7*j)=7 by lia] at l;exists yi (rr:=dH K A) p c.sub ⟨F,_,rfl,l,HP i g,rfl⟩ (λG x V W D y=>dH.new D y) λR N aa r B=>?_;refine v _ _ _ _ (c.trans r) B ?_;rw[V2,VN];rfl
 ·intro b o M ys e a t d u;refine k b _ _ (e.gr a t d) ?_;have:bC net=(List.range m).map λj=>ji (seven net j):=by
   unfold bC;rw[show net.length/7=m by lia]
  rw[this];exact RL.new d u
def BZ(net:ao)(j:Nat):mr net (j+1)=mr net j+if net.getD (1+7*j) 0=13 then 1 else 0:=by
 unfold mr;rw[V2,List.filter_append,Vw];by_cases h:net.getD (1+7*j) 0=13
 ·rw[Vh h,List.filter_cons,Vh (Vx h)];simp
 ·rw[Vg h,List.filter_cons,Vg (rH h)];simp
def PD(T:Tx P K mg A):Fn P w K mg ah 43 "is_network" ["net"] (bW (RL RI) RB (λnet=>net.length<=1000) ia):=by
 have V:=PH w ah T;refine T.LC.fn wu bW.aC λf ai ad am s H vs Q E aa h=>?_;obtain⟨G,R,net,rfl,b,a,aj,k⟩:=h;refine⟨_,(au (a_ ((j5 (bg jf (bF zm (eE K T.eu ap) (aY T.pR)) az) (j5 (bg mO (px K ap az) az) (lT (bg iT (px K ap az) (aY T.J5)))))).pt
    (aw (aJ ic))
    bx)
   (au (a_ (bg iT (eE K T.eu ap) (bF je az (bF eQ (aY T.J8) (aY T.pR))))
    (aw (aJ ic))
    bx)
   (au (bo 1 wu.nd az)
   (au (dY VJ rfl (sO (by rfl) T.hR (bZ az (eE K T.eu ap) (aY T.pR))) (bU 2 wu.nd)
    (au (a_ (jC (d8 (aL V aa (a9 (qh (qx (K:=K)) ap (lS aP) (lS (bF je aP (aY T.pR))))))))
    (aw (aJ ic))
    bx)
   (aw (a_ (bg cp (px K ap aP) (aY T.pP))
    (aw (zB (i:=1) wu.nd rfl (Or.inl rfl) az yx))
    bx))))
   (aw (aJ (ff lP ax (aY T.J1)))))))),?_⟩
 try simp only[bn]
 refine br [some R,none,none] ?_;have an:(0:Int)<7:=by decide
 have ak:IntMulOk 10 7:=IntMulOk.of_left ∅;have g:=al.refl b;exists eZ a b ?_;walk_at "go";by_cases B:(net.length:Int)%7=1
 case neg=>
  rw[Vh (kW B)];exists k _ _ _ g ?_;have r:net.length%7≠1:=by lia
  unfold ia;rw[Vx r];rfl
 rw[Vg (lI B)];have r:net.length%7=1:=by lia
 have D:net[0]? =some (net.getD 0 0):=getD_some ⋯;exists bE 0 a b rfl D λu d=>?_;subst d;walk_at "go";by_cases l:net.getD 0 0<1
 ·refine bv l ?_;exists k _ _ _ g ?_;unfold ia;rw[Vx l];simp[RB]
 refine bf l ?_;exists bE 0 a b rfl D λu d=>?_;subst d;walk_at "go";by_cases n:8<net.getD 0 0
 ·refine bv n ?_;exists k _ _ _ g ?_;unfold ia;rw[Vx n];simp[RB]
 refine bf n ?_;exists eZ a b ?_;walk_at "go";by_cases C:(1:Int)+10*7<(net.length:Int)
 ·refine bv C ?_;exists k _ _ _ g ?_;have t:71<net.length:=by lia
  unfold ia;rw[Vx t];simp[RB]
 refine bf C ?_;have t:¬71<net.length:=by lia
 obtain⟨m,M⟩:∃m,net.length=7*m+1:=⟨net.length/7,⋯⟩
 have Y:net.length/7=m:=by lia
 have I:ia net=(((List.range m).all λj=>gW (seven net j))&&decide (mr net m<=3)):=by unfold ia;rw[Y,VF (show ¬net.length%7≠1 from λy=>y r),VF l,VF n,VF t];rfl
 exists eZ a b ?_;exists⟨1,(net.length:Int),7,m,rfl,FL M ⋯,?_⟩;refine Nd (G:=G) (λj z q p=>al H G q p/\((List.range j).all λj=>gW (seven net j))=true/\∃u:b9,z=[some R,some (.int (mr net j)),u]) ⟨g,rfl,none,rfl⟩ ?_ ?_
 ·rintro j z q p L ⟨e,v,ac,rfl⟩;have X:net[1+7*j]? =some (net.getD (1+7*j) 0):=getD_some ⋯;walk_at "go";rw[show(1:Int)+(j:Nat)*7+7=((1+7*j+7:Nat):Int) by lia];rw[show(1:Int)+(j:Nat)*7=((1+7*j:Nat):Int) by lia];refine yf (e.up a) e.sub ⋯ λaf S ao F O=>?_;rw[show 1+7*j+7-(1+7*j)=7 by lia] at O;exists dG S F.sub O (HP M L) λag ae ab W x=>?_
  replace x:ab=.bl (gW (seven net j)):=x
  subst x;have c:=e.trans (F.trans W);walk_at "go";cases N:gW (seven net j) with
  |false=>
   exists k _ _ _ c ?_;have:((List.range m).all λj=>gW (seven net j))=false:=by rw[<-W7,VO];intro y;have:=y j (VB.mpr L);rw[N] at this;cases this
   rw[I,this];rfl
  |true=>
   rw[Vg (by simp)];have J:((List.range (j+1)).all λj=>gW (seven net j))=true:=by rw[V2,Xs,v];simp[N]
   exists bE (1+7*j) (c.up a) c.sub rfl X λu d=>?_;subst d;walk_at "go";by_cases o:net.getD (1+7*j) 0=13
   ·refine bv o ?_;exists yg ?_;refine⟨_,c,J,some (.int ((1+7*j:Nat):Int)),?_⟩;rw[BZ,Vh o];rfl
   ·refine bf o ?_;exists⟨_,c,J,some (.int ((1+7*j:Nat):Int)),?_⟩;rw[BZ,Vg o,Int.add_zero]
 ·rintro z q p ⟨e,v,ac,rfl⟩;exists k _ _ _ e ?_;rw[I,v];rfl
def CI{l:bh}{j:Nat}{p:cJ}{k:Int}(h:l[j]? =some p):(l.take (j+1)).flatMap (dN k)=(l.take j).flatMap (dN k)++dN k p:=by rw[VU,h,WQ];simp
def Ob(k:Int)(p:cJ):(dN k p).length<=1:=by
 unfold dN;split
 ·simp
 ·split<;>simp
theorem oE(k:Int):∀l:bh,(l.flatMap (dN k)).length<=l.length
 |[]=>by simp
 |p::l=>by
  rw[VZ,Vw,Vu];have:=Ob k p;have:=oE k l
  lia
def PN(T:Tx P K mg A):Fn P w K mg ah 41 "links_of" ["parts","k"] (b6 (RL (dH K A)) RI (RL (io K)) (λaf k=>0<=k/\k<af.length/\af.length<=100) λaf k=>cP af k.toNat):=by
 refine T.LL.fn Am b6.aC λf aQ aO a1 s H vs Q E aX h=>?_;obtain⟨G,L,aM,af,aA,rfl,F,aj,aH,⟨aT,aU,aW⟩,k⟩:=h;refine⟨_,(au (a_ (bg jf (ay K (px K ap ax)) (aY T.pO))
    (aw (aJ (dk j1)))
    bx)
   (au (bo 2 Am.nd (dk (a9 (dC (aV ax (ay K (px K ap ax)))))))
   (au (dY VJ rfl (gY (K:=K) ap) (bU 3 Am.nd)
    (aw (a_ ((nO (bg cp (ay K aZ) (aY T.lH)) (nP (bg cp (ay K aZ) ax)))).pt
    (aw (dU (lQ K aP (dC (aV (ay K aZ) (ay K aZ))))))
    (aw (a_ ((nO (bg cp (ay K aZ) (aY T.lH)) (nP (bg cp (ay K aZ) ax)))).pt
    (aw (dU (lQ K aP (dC (aV (ay K aZ) (ay K aZ))))))
    bx)))))
   (aw (aJ aP))))),?_⟩
 try simp only[bn]
 refine br [some L,some aM,none,none] ?_;subst aH;obtain⟨d,rfl⟩:∃d:Nat,aA=(d:Int):=⟨aA.toNat,⋯⟩
 replace k:∀(i m:Hp)(v:V),al H G i m->RL (io K) m v (cP af d)->Q v i:=k
 have ar:af[d]? =some (af.getD d ae):=getD_some ⋯;exists bE d aj F rfl ar λu a0=>?_;walk_at "go";by_cases c:(af.getD d ae).kind=2
 case neg=>
  rw[Vh (kW c)];exists⟨We _,λp S=>k _ _ _ (al.new F S) ?_⟩;have:cP af d=[]:=by unfold cP;rw[Vh c]
  rw[this];exact RL.new (F.free S) .nil
 rw[Vg (lI c)];have aF:cP af d=((d:Int),(af.getD d ae).q)::af.flatMap (dN d):=by unfold cP;rw[Vg (λg=>g c)]
 exists bE d aj F rfl ar λa2 aK=>?_;refine ja T aK F λac aL=>?_;exists⟨dh,λp S=>?_⟩;have I:=al.new (o:=.aN [.int d,ac]) F S;have aD:io K (ai G p (.aN [.int d,ac])) (.ref p) ((d:Int),(af.getD d ae).q):=io.new (F.free S) aL;generalize ai H p (.aN [.int d,ac])=N at I ⊢;generalize ai G p (.aN [.int d,ac])=M at I aD;exists⟨by show 1<=sizeLine;decide,λl aa=>?_⟩;have ao:al N M (ai N l (.aq [.ref p])) M:=al.kH I.sub aa;have aG:=I.sub.free aa;exists mz (r:=dH K A) (λj ad i m=>al N M i m/\m l=none/\(∃ys,i l=some (.aq ys)/\Paired (io K m) ys (((d:Int),(af.getD d ae).q)::(af.take j).flatMap (dN d)))/\∃u:b9,ad=[some L,some (.int d),some (.ref l),u]) (I.up aj) ao.sub
  ⟨ao,aG,⟨_,aS,.cons aD .nil⟩,none,rfl⟩ (λj ad i m p=>⟨p.1.gs,p.1.sub⟩) ?_ ?_
 ·rintro j x u ad i m an av ⟨e,R,⟨ys,n,J⟩,W,rfl⟩;have ab:=e.sub;have aR:=(Vj.mp an).1;have az:ys.length<sizeLine:=by
   rw[VP J,Vu];have:=oE d (af.take j);rw[V0] at this;exact dB ⋯
  have aB:∀(z:V)(y:Int),RF K m z x.q->dN d x=[(y,x.q)]->∀t,i t=none->
    ∃D,al N M (ai (ai i t (.aN [.int y,z])) l (.aq (ys++[.ref t]))) D/\D l=none/\(∃X,ai (ai i t (.aN [.int y,z])) l (.aq (ys++[.ref t])) l=some (.aq X)/\Paired (io K D) X (((d:Int),(af.getD d ae).q)::(af.take (j+1)).flatMap (dN d)))/\
     ∃W:b9,[some L,some (.int d),some (.ref l),some u]=[some L,some (V.int d),some (.ref l),W]:=by
   intro z y aI ak t C;have ag:=al.new (o:=.aN [.int y,z]) ab C;have as:=ag.fr l R (by rw[n];exact λg=>nomatch g);refine⟨_,(e.trans ag).eV aa as,as,⟨_,aS,?_⟩,_,rfl⟩;rw[CI an,ak, <-List.cons_append];exact Xw (Paired.imp (λ_ _ g=>Mo.mo ag.gs g) J) (io.new (ab.free C) aI)
  have aE:dN d x=[]->∃D,al N M i D/\D l=none/\(∃X,i l=some (.aq X)/\Paired (io K D) X (((d:Int),(af.getD d ae).q)::(af.take (j+1)).flatMap (dN d)))/\∃W:b9,[some L,some (.int d),some (.ref l),some u]=[some L,some (V.int d),some (.ref l),W]:=λak=>⟨m,e,R,⟨ys,n,by rw[CI an,ak,Wo];exact J⟩,_,rfl⟩
  walk_at "go";by_cases B:x.kind=3
  case neg=>refine bf B ?_;rw[Vg (by simp)];exists bf B ?_;rw[Vg (by simp)];exists aE (by unfold dN;rw[Vg (λg=>B g.1),Vg (λg=>B g.1)])
  refine bv B ?_;walk_at "go";by_cases O:x.a=d
  ·refine bv O ?_;exists jW n ?_;exists ja T av ab λz am=>?_;exists⟨dh,λt C=>?_⟩;exists lM (by rw[bA (dI n C)];exact n) az ?_;exact aB z x.b am (by unfold dN;rw[Vh ⟨B,O⟩]) t C
  refine bf O ?_;exists bv B ?_;walk_at "go";by_cases Y:x.b=d
  ·refine bv Y ?_;exists jW n ?_;exists ja T av ab λz am=>?_;exists⟨dh,λt C=>?_⟩;exists lM (by rw[bA (dI n C)];exact n) az ?_;exact aB z x.a am (by unfold dN;rw[Vg (λg=>O g.2),Vh ⟨B,Y⟩]) t C
  refine bf Y ?_;exists aE (by unfold dN;rw[Vg (λg=>O g.2),Vg (λg=>Y g.2)])
 ·rintro ad i m ⟨e,R,⟨ys,n,J⟩,W,rfl⟩;rw[Wj] at J;exists k i _ _ (I.trans (e.gr aa n R)) ?_;rw[aF];exact RL.new R J
theorem Av(n:Int):∀(l:bh)(p:cJ),fw n (l++[p])=fw n l+gm p.kind
 |[],p=>rfl
 |a::l,p=>Av (n+gm a.kind) l p
theorem Iq(n:Int):∀(l:bh)(p:cJ),fC n (l++[p])=fC n l++[fw n l]
 |[],p=>rfl
 |a::l,p=>by
  show n::fC (n+gm a.kind) (l++[p])=n::(fC (n+gm a.kind) l++[fw (n+gm a.kind) l])
  rw[Iq]
theorem wH(n:Int):∀l:bh,(fC n l).length=l.length
 |[]=>rfl
 |a::l=>by show(fC (n+gm a.kind) l).length+1=l.length+1;rw[wH]
def Ba(K:Frag)(A:bV):Hp->aQ->bB->Prop:=λG us n=>∃b c a af d,us=[.int a,b,c]/\RL (dH K A) G b af/\RL (RO (eY K A)) G c d/\af.length<=100/\n=ak a af d
def O7(T:Tx P K mg A):kL P w K mg ah 42 A.cA ["self","nodes","parts","waves"] (oZ A.cA (Ba K A) (oh K A)):=by
 have b5:=Pt w ah T;have b6:=PN w ah T;refine T.KY.fn qo (by rintro vs H Q E ⟨_,_,_,_,_,rfl,_,_,_,⟨_,_,_,_,_,rfl,_⟩,_⟩;rfl) λf cN cG cO s H vs Q E bF h=>?_;obtain⟨G,x,a,_,_,rfl,cy,R,bH,⟨J,i,d,af,cS,rfl,S,ca,cj,rfl⟩,k⟩:=h;obtain⟨cB,ev⟩:∃v,v=V.ref x:=⟨_,rfl⟩
 obtain⟨cC,bj⟩:∃v,v=V.int d:=⟨_,rfl⟩
 rw[<-ev, <-bj];refine⟨_,(au (cY K ap ax)
   (au (cY K ap aP)
   (au (cY K ap aZ)
   (au (cY K ap (dk j1))
   (au (cY K ap ax)
   (au (dY VJ rfl (gY (K:=K) aP) (bU 4 qo.nd)
    (au (dU (lQ K (ay K ap) (ay K ap)))
   (aw (vU (K:=K) ap (aL b5 bF (a9 (ay K bP))) uY))))
   (au (cY K ap (j2 rfl qo.nd (lR (by rfl) T.hR (a9 (eE K T.eu aP))) (hW (own:=[("k",5)]) (by show gC ["self","nodes","parts","waves","part","k"] (aM we) _ _=true;decide+kernel)) (λ_ _ _ _ _=>(bU 5 qo.nd)) (λ_ _ _ _ _=>(Fp (bg cp (ay K (px K aP da)) (aY T.pP)))) (λ_ _ _ _ _=>da)))
   (aw (cY K ap (j2 rfl qo.nd (lR (by rfl) T.hR (a9 (eE K T.eu aP))) (hW (own:=[("k",5)]) (by show gC ["self","nodes","parts","waves","part","k"] (aM we) _ _=true;decide+kernel)) (λ_ _ _ _ _=>(bU 5 qo.nd)) (λ_ _ _ _ _=>iV) (λ_ _ _ _ _=>(aL b6 bF (aV aP da))))))))))))),?_⟩
 try simp only[bn]
 refine br [some cB,some cC,some J,some i,none,none] ?_;subst ev bj;exists cX bH T.gJ T.D3 (by show 0<1000;decide) ?_;have bY:=bG.put (o':=.aA A.cA a (aD "nodes" (.int d) [])) cy bH R;have a4:ai H x (.aA A.cA a (aD "nodes" (.int d) [])) x=some (.aA A.cA a (aD "nodes" (.int d) [])):=aS;generalize ai H x (.aA A.cA a (aD "nodes" (.int d) []))=bd at bY a4 ⊢;exists cX a4 T.gJ T.D5 (Vl (iB (n:=0) (by simp)) ∅) ?_;have bZ:=bY.iW (o':=.aA A.cA a (aD "parts" J (aD "nodes" (.int d) []))) a4 R;have aF:ai bd x (.aA A.cA a (aD "parts" J (aD "nodes" (.int d) []))) x=some (.aA A.cA a (aD "parts" J (aD "nodes" (.int d) []))):=aS;generalize ai bd x (.aA A.cA a (aD "parts" J (aD "nodes" (.int d) [])))=be at bZ aF ⊢;walk_at "go";obtain⟨m,W⟩:∃g,g=aD "parts" J (aD "nodes" (.int d) []):=⟨_,rfl⟩
 rw[<-W] at aF;have bM:m.length<=2:=by rw[W];exact iB (iB (by simp))
 refine cX aF T.gJ T.D7 (Vl bM ∅) ?_;have am:=bZ.iW (o':=.aA A.cA a (aD "waves" i m)) aF R;have aG:ai be x (.aA A.cA a (aD "waves" i m)) x=some (.aA A.cA a (aD "waves" i m)):=aS;generalize ai be x (.aA A.cA a (aD "waves" i m))=av at am aG ⊢;exists⟨We _,λl ad=>?_⟩;have aU:al av G (ai av l (.aq [])) G:=al.kH am.sub ad;have a6:=aU.hs _ _ aG;have b0:=am.then aG aU
 have b8:=am.sub.free ad;have bB:ai av l (.aq []) l=some (.aq []):=aS;have L:x≠l:=dI aG ad;have bu:H l=none:=by
  cases q:H l with
  |none=>rfl
  |some o=>rw[am.hs l o (λe=>L e.symm) q] at ad;cases ad
 generalize ai av l (.aq [])=aR at aU a6 b0 bB ⊢;have bN:(aD "waves" i m).length<=3:=iB bM;exists cX a6 T.gJ T.yZ (Vl bN ∅) ?_;have b1:=b0.iW (o':=.aA A.cA a (aD "spots" (.ref l) (aD "waves" i m))) a6 R;have a5:ai aR x (.aA A.cA a (aD "spots" (.ref l) (aD "waves" i m))) x=some (.aA A.cA a (aD "spots" (.ref l) (aD "waves" i m))):=aS;have bx:ai aR x (.aA A.cA a (aD "spots" (.ref l) (aD "waves" i m))) l=some (.aq []):=by rw[bA (λe=>L e.symm)];exact bB
 generalize ai aR x (.aA A.cA a (aD "spots" (.ref l) (aD "waves" i m)))=aT at b1 a5 bx ⊢;have bO:(aD "spots" (.ref l) (aD "waves" i m)).length<=4:=iB bN;exists cX a5 T.gJ T.vG (Vl bO ∅) ?_;obtain⟨t,I⟩:∃g,g=aD "size" (.int d) (aD "spots" (.ref l) (aD "waves" i m)):=⟨_,rfl⟩
 rw[<-I];have a_:=b1.iW (o':=.aA A.cA a t) a5 R;have bI:ai aT x (.aA A.cA a t) x=some (.aA A.cA a t):=aS;have bz:ai aT x (.aA A.cA a t) l=some (.aq []):=by rw[bA (λe=>L e.symm)];exact bx
 have cr:t.length<=5:=by rw[I];exact iB bO
 generalize ai aT x (.aA A.cA a t)=cI at a_ bI bz ⊢;have cs:t.lookup ("nodes":Str)=some (.int d):=by rw[I,W];walk_at "lk"
 have ct:t.lookup ("parts":Str)=some J:=by rw[I,W];walk_at "lk"
 have cu:t.lookup ("waves":Str)=some i:=by rw[I];walk_at "lk"
 have cv:t.lookup ("spots":Str)=some (.ref l):=by rw[I];walk_at "lk"
 have cw:t.lookup ("size":Str)=some (.int d):=by rw[I];walk_at "lk"
 have cx:t.lookup ("kind_of":Str)=none:=by
  rw[I,W];walk_at "lk"
  try rfl
 clear I W;exists mz (r:=dH K A) (λj aK B D=>bG x H G B D/\D x=none/\D l=none/\B l=some (.aq ((fC d (af.take j)).map V.int))/\
   (∃g,B x=some (.aA A.cA a g)/\g.length<=5+j/\g.lookup ("nodes":Str)=some (.int d)/\g.lookup ("parts":Str)=some J/\g.lookup ("waves":Str)=some i/\g.lookup ("spots":Str)=some (.ref l)/\g.lookup ("size":Str)=some (.int (fw d (af.take j)))/\g.lookup ("kind_of":Str)=none)/\
   ∃a7 a8:b9,aK=[some (.ref x),some (.int d),some J,some i,a7,a8]) S a_.sub
  ⟨a_,R,b8,bz,⟨t,bI,cr,cs,ct,cu,cv,cw,cx⟩,none,none,rfl⟩ (λj aK B D p=>⟨p.1.gs,p.1.sub⟩) ?_ ?_
 ·rintro j p u aK B D bD cm ⟨y,aX,aE,X,⟨g,N,aj,a',ba,bb,aJ,ar,bc⟩,a7,a8,rfl⟩;have ac:=(Vj.mp bD).1;have bi:af.take (j+1)=af.take j++[p]:=by rw[VU,bD];rfl
  exists cH N T.gJ T.yZ aJ ?_;refine jW X ?_;exists cH N T.gJ T.vG ar ?_;exists lM X (by rw[Vn,wH,V0];exact dB ⋯) ?_;have aW:bG x H G (ai B l (.aq ((fC d (af.take j)).map V.int++[.int (fw d (af.take j))]))) D:=
   ⟨λb o a1 h=>by rw[bA (dI h bu)];exact y.hs b o a1 h,y.gs,λb o h=>by rw[bA (dI h aE)];exact y.sub b o h,y.fr⟩
  have ag:ai B l (.aq ((fC d (af.take j)).map V.int++[.int (fw d (af.take j))])) x=some (.aA A.cA a g):=by rw[bA L];exact N
  have a3:ai B l (.aq ((fC d (af.take j)).map V.int++[.int (fw d (af.take j))])) l=some (.aq ((fC d (af.take (j+1))).map V.int)):=by rw[aS,bi,Iq,VN];rfl
  generalize ai B l (.aq ((fC d (af.take j)).map V.int++[.int (fw d (af.take j))]))=cM at aW ag a3 ⊢;have cz:=aW.sub;exists uR ag T.gJ T.vG ar ?_;exists dG D cz rfl trivial λcJ aN cQ aa cn=>?_;subst cn;have bJ:=aa.hs _ _ ag;have cg:=aa.hs _ _ a3;have bm:aN x=none:=aa.fr x aX (by rw[ag];exact λe=>nomatch e);have b_:aN l=none:=aa.fr l aE (by rw[a3];exact λe=>nomatch e);have cD:=aW.then ag aa
  refine uS ?_;refine⟨a,g,bJ,Vl aj ⋯,?_⟩;refine⟨aN,cD.iW bJ bm,bm,b_,by rw[bA (λe=>L e.symm)];exact cg,⟨_,aS,Vy (iB aj) ⋯,?_,?_,?_,?_,?_,?_⟩,_,_,rfl⟩
  ·walk_at "lk";exact a'
  ·walk_at "lk";exact ba
  ·walk_at "lk";exact bb
  ·walk_at "lk";exact aJ
  ·rw[bi,Av];walk_at "lk"
  ·walk_at "lk";exact bc
 ·rintro aK B D ⟨y,aX,aE,X,⟨g,N,aj,a',ba,bb,aJ,ar,bc⟩,a7,a8,rfl⟩;rw[Wj] at X ar;have bX:=y.sub;exists eZ (y.up S) bX ?_;exists⟨(af.length:Int),rfl,⋯,⋯,?_⟩;rw[VE]
  refine oK (rr:=RI) (G:=D) af.length (λj=>0+(j:Int)) (λj=>((List.range j).filter λk=>decide ((af.getD k ae).kind=13)).map λ(k:Nat)=>(k:Int)) bX (by simp)
   (λj ac=>by rw[Vn];exact Vl (List.length_filter_le _ _) (by rw[Wz];exact dB ⋯)) (λ_ _ h=>h) (λ_=>Vm _) (λ_ _ _ _ h=>h) (λ_=>rfl) ?_ ?_
  ·intro j az aO C b4 ac ab a0 cb;have b7:af[j]? =some (af.getD j ae):=getD_some ac;exists bE j ((ab.up (y.up S))) ab.sub ⋯ b7 λu cm=>?_;have bS:=ab.sub;walk_at "go";by_cases c:(af.getD j ae).kind=13
   ·refine bv c ?_;exists a0 _ (j:Int) _ _ (al.refl bS) (by show V.int _=V.int _;congr 1;lia) ?_;rw[V2,List.filter_append,VN,List.filter_cons,Vh (Vx c)];rfl
   ·refine bf c ?_;refine cb _ _ (al.refl bS) ?_;rw[V2,List.filter_append,VN,List.filter_cons,Vg (rH c)];simp
  ·intro az aO z ys ab cc cd bq ck;have O:=ab.gr cc cd bq;have bR:RL RI (ai aO z (.aq ys)) (.ref z) (bw af):=RL.new bq ck;generalize ai aO z (.aq ys)=aQ at O bR;have bK:=O.hs _ _ N;have ch:=O.hs _ _ X;have bo:aQ x=none:=O.fr x aX (by rw[N];exact λe=>nomatch e);have b':aQ l=none:=O.fr l aE (by rw[X];exact λe=>nomatch e);have cE:=y.then N O
   exists cX bK T.gJ T.D1 (Vl aj ⋯) ?_;have an:=cE.iW (o':=.aA A.cA a (aD "diodes" (.ref z) g)) bK bo;have aH:ai az x (.aA A.cA a (aD "diodes" (.ref z) g)) x=some (.aA A.cA a (aD "diodes" (.ref z) g)):=aS;have a2:ai az x (.aA A.cA a (aD "diodes" (.ref z) g)) l=some (.aq ((fC d af).map V.int)):=by rw[bA (λe=>L e.symm)];exact ch
   generalize ai az x (.aA A.cA a (aD "diodes" (.ref z) g))=cK at an aH a2 ⊢;have bV:=an.sub;exists eZ (an.up S) bV ?_;exists⟨(af.length:Int),rfl,⋯,⋯,?_⟩;rw[VE]
   refine oK (rr:=RL (io K)) (G:=aQ) af.length (λj=>0+(j:Int)) (λj=>(List.range j).map (cP af)) bV (by simp)
    (λj ac=>by rw[Vn,Wz];exact dB ⋯) (λ_ _ h=>h) (λ_=>Vm _) (λ_ _ _ _ h=>h) (λ_=>rfl) ?_ ?_
   ·intro j bh as C b4 ac aC a0 _;walk_at "go";exists bT as aC.sub (aC.up (an.up S)) rfl ⟨⋯,⋯,cj⟩ λcL M cR F co=>?_;refine a0 _ _ _ _ F co ?_;rw[V2,VN,show((0:Int)+(j:Int)).toNat=j by lia];rfl
   ·intro bh as Y b3 aC ce cf bs cl;have F:=aC.gr ce cf bs;have bQ:RL (RL (io K)) (ai as Y (.aq b3)) (.ref Y) ((List.range af.length).map (cP af)):=RL.new bs cl;generalize ai as Y (.aq b3)=M at F bQ;have bL:=F.hs _ _ aH;have ci:=F.hs _ _ a2;have bp:M x=none:=F.fr x bo (by rw[aH];exact λe=>nomatch e);have bl:M l=none:=F.fr l b' (by rw[a2];exact λe=>nomatch e);have cF:=an.then aH F
    exists cX bL T.gJ T.D2 (Vl (iB aj) ⋯) ?_;have aI:=cF.iW (o':=.aA A.cA a (aD "links" (.ref Y) (aD "diodes" (.ref z) g))) bL bp;have b2:bG x H G (ai bh x (.aA A.cA a (aD "links" (.ref Y) (aD "diodes" (.ref z) g)))) (ai M l (.aq ((fC d af).map V.int))):=by
     refine⟨aI.hs,aI.gs.trans (aB.new bl),λb o q=>?_,λb a1 bC=>?_⟩
     ·by_cases bt:b=l
      ·subst bt;rw[aS] at q;rw[<-q,bA (λe=>L e.symm)];exact ci
      ·rw[bA bt] at q;exact aI.sub b o q
     ·have:b≠l:=λe=>by subst e;exact bC bu
      rw[bA this];exact aI.fr b a1 bC
    refine k _ _ _ b2 aS (by rw[bA L];exact bp) ?_;have bW:aB M (ai M l (.aq ((fC d af).map V.int))):=aB.new bl;have bk:aB G (ai M l (.aq ((fC d af).map V.int))):=b2.gs;refine⟨⟨_,by walk_at "lk";exact a',rfl⟩,⟨_,by walk_at "lk";exact ba,Mo.mo bk S⟩,⟨_,by walk_at "lk";exact bb,Mo.mo bk ca⟩,⟨_,by walk_at "lk";exact aJ,?_⟩,⟨_,by walk_at "lk";exact ar,rfl⟩,⟨_,by walk_at "lk",Mo.mo (F.gs.trans bW) bR⟩,⟨_,by walk_at "lk",Mo.mo bW bQ⟩,by walk_at "lk";exact bc⟩;refine⟨l,_,rfl,aS,?_⟩;have:∀(G:Hp)(ak:ao),Paired (RI G) (ak.map V.int) ak:=by
     intro G ak;induction ak with
     |nil=>exact .nil
     |cons n ak cq=>exact .cons rfl cq
    exact this _ _
open Builtin.Int (intBits)
def Bt(b:Nat)(x:Int):Prop:=intBits x<=b
def FB(b:Nat)(x:Fr):Prop:=Bt b x.1/\Bt b x.2
def Bt.sz{b:Nat}{x:Int}(h:Bt b x)(a:b<=67108864:=by decide):Sz x:=Vy h a
def Bt.aF{a b:Nat}{x:Int}(h:Bt a x)(c:a<=b:=by decide):Bt b x:=Vy h c
def Bt.mul{a b:Nat}{x y:Int}(h:Bt a x)(q:Bt b y):Bt (a+b) (x*y):=intBits_mul_le h q
def Bt.add{a:Nat}{x y:Int}(h:Bt a x)(q:Bt a y):Bt (a+1) (x+y):=by have:=intBits_add_le h q;rw[Nat.max_self] at this;exact this
def Bt.sub{a:Nat}{x y:Int}(h:Bt a x)(q:Bt a y):Bt (a+1) (x-y):=by have:=intBits_sub_le h q;rw[Nat.max_self] at this;exact this
def Bt.of{b:Nat}{x:Int}(h:x.natAbs<2^b):Bt b x:=intBits_le_iff.mpr h
def Bt.div{a:Nat}{x y:Int}(h:Bt a x)(b:0<y):Bt a (x/y):=by have:=intBits_fdiv_le (y:=y) h;rw[Int.fdiv_eq_ediv_of_nonneg x ⋯] at this;exact this
def FB.sz{b:Nat}{x:Fr}(h:FB b x)(a:b<=67108864:=by decide):cV x:=⟨h.1.sz a,h.2.sz a⟩
def FB.aF{a b:Nat}{x:Fr}(h:FB a x)(c:a<=b:=by decide):FB b x:=⟨h.1.aF c,h.2.aF c⟩
def FB.plus{a b:Nat}{x y:Fr}(h:FB a x)(q:FB b y):FB (a+b+1) (plus x y):=⟨(h.1.mul q.2).add (by rw[Nat.add_comm];exact q.1.mul h.2),(h.2.mul q.2).aF ⋯⟩
def FB.dS{a b:Nat}{x y:Fr}(h:FB a x)(q:FB b y):FB (a+b+1) (dS x y):=⟨(h.1.mul q.2).sub (by rw[Nat.add_comm];exact q.1.mul h.2),(h.2.mul q.2).aF ⋯⟩
def FB.bI{a b:Nat}{x y:Fr}(h:FB a x)(q:FB b y):FB (a+b) (bI x y):=⟨h.1.mul q.1,h.2.mul q.2⟩
def FB.cU{a b:Nat}{x y:Fr}(h:FB a x)(q:FB b y):FB (a+b) (cU x y):=⟨h.1.mul q.2,h.2.mul q.1⟩
def FB.zero:FB 20 (0,1):=⟨by unfold Bt;decide,by unfold Bt;decide⟩
structure fh(w:dX):Prop where
 aC:w.cD.length=w.fP.length
 pos:0<w.cD.length
 most:w.cD.length<=8
 zp:FB 20 w.period
 vF:∀x∈w.cD,FB 20 x
 yK:∀x∈w.fP,FB 20 x
 zq:0<w.period.2
def CP{a:Type}{r:Rl a}{G H:Hp}{Q:VK}{v:V}{xs:List a}{d:a}(h:RL r G v xs)(s:aB G H)(f:0<xs.length)(k:∀u,r G u (xs.getD (xs.length-1) d)->Q u H):iC K v (.int (-1)) H Q:=by obtain⟨p,vs,rfl,h,q⟩:=h;have e:=VP q;obtain⟨u,b,c⟩:=Paired.get q (getD_some (d:=d) (show xs.length-1<xs.length by lia));refine .inl ⟨p,vs, -1,u,rfl,rfl,aT.of (s _ _ h),?_,k u c⟩;unfold ox mE;rw[Vg ∅,Vh ⋯];show vs[(-1+(vs.length:Int)).toNat]? =some u;rw[show(-1+(vs.length:Int)).toNat=xs.length-1 by lia];exact b
def PR(T:Tx P K mg A):Fn P w K mg ah 42 "moment_in_period" ["period","time"] (b6 (RF K) (RF K) (RF K) (λp a=>FB 20 p/\0<p.2/\FB 60 a/\0<a.2) jv):=by
 have z:=qf w ah T;have D:=zi w ah T;have B:=zg w ah T;have C:=qg w ah T;refine T.LQ.fn HE b6.aC λf ag aa am s H vs Q E e h=>?_;obtain⟨G,X,Y,p,a,rfl,W,l,m,⟨d,aj,n,N⟩,k⟩:=h;refine⟨_,(au (a_ (jC (d8 (aL z e (aV ap (aY T.mn)))))
    (aw (aJ ax))
    bx)
   (au (bo 2 HE.nd (aL D e (aV ax ap)))
   (aw (aJ (aL B e (aV ax (aL C e (aV (dC (aV (bF (oQ (oA T.tree e)) (px K aP az) (px K aP az)) az)) ap)))))))),?_⟩
 try simp only[bn]
 refine br [some X,some Y,none] ?_;exists bT G W l (T.mF G) ⟨d.sz,FB.zero.sz⟩ λac u an b O=>?_;subst O;walk_at "go";cases c:above p (0,1) with
 |false=>exists k _ _ _ b ?_;unfold jv;rw[c];exact b.up m
 |true=>
  refine iP ?_;have J:0<p.1:=by unfold above at c;have:=Wy c;simpa using this
  have L:(0:Int)<(cU a p).2:=WK N J;exists bT u b.sub (b.up m) (b.up l) ⟨n.sz,d.sz⟩ λad v ao t ak=>?_;have V:=t.sub;exists⟨dh,λq M=>?_⟩;have g:=al.new (o:=.aN [.int ((cU a p).1/(cU a p).2),.int 1]) V M;have I:RF K (ai v q (.aN [.int ((cU a p).1/(cU a p).2),.int 1])) (.ref q) ((cU a p).1/(cU a p).2,1):=RF.new (x:=((cU a p).1/(cU a p).2,1));have i:=b.trans t;have r:FB 80 ((cU a p).1/(cU a p).2,1):=⟨((n.cU d).1.div L),(by show intBits 1<=80;decide)⟩
  exists bT _ g.sub I ((i.trans g).up l) ⟨r.sz,d.sz⟩ λae y aq j R=>?_;exists bT y j.sub ((i.trans (g.trans j)).up m) R ⟨n.sz,(r.bI d).sz⟩ λaf ab ar F S=>?_;refine k _ _ _ ((i.trans (g.trans j)).trans F) ?_;unfold jv;rw[c];exact S
def Qb(T:Tx P K mg A):Fn P w K mg ah 42 "value_between" ["wave","k","moment"] (eG (eY K A) RI (RF K) (RF K) (λw k m=>fh w/\1<=k/\k<w.cD.length/\FB 200 m) λw k m=>qM w k.toNat m):=by
 have X:=zi w ah T;have p:=zg w ah T;have W:=qg w ah T;have V:=zh w ah T;refine T.Mi.fn wA eG.aC λf aS aH aX s H vs Q E g h=>?_;obtain⟨G,aE,aF,aG,c,J,m,rfl,l,e,aa,ab,⟨i,aT,aU,I⟩,k⟩:=h;refine⟨_,(au (bo 3 wA.nd (aL p g (aV (px K (ay K ap) ax) (px K (ay K ap) (bF jg ax az)))))
   (au (bo 4 wA.nd (aL p g (aV (px K (ay K ap) ax) (px K (ay K ap) (bF jg ax az)))))
   (au (bo 5 wA.nd (aL p g (aV aP (px K (ay K ap) (bF jg ax az)))))
   (aw (aJ (aL V g (aV (px K (ay K ap) (bF jg ax az)) (aL X g (aV (aL W g (aV bP da)) aZ))))))))),?_⟩
 try simp only[bn]
 refine br [some aE,some aF,some aG,none,none,none] ?_;subst aa;obtain⟨a,rfl⟩:∃a:Nat,J=(a:Int):=⟨J.toNat,⋯⟩
 have aW:=i.aC;have z:c.cD[a]? =some (c.cD.getD a am):=getD_some ⋯;have q:c.cD[a-1]? =some (c.cD.getD (a-1) am):=getD_some ⋯;have B:c.fP[a]? =some (c.fP.getD a am):=getD_some ⋯;have r:c.fP[a-1]? =some (c.fP.getD (a-1) am):=getD_some ⋯;have C:=i.vF _ (Vf z);have n:=i.vF _ (Vf q);have D:=i.yK _ (Vf B);have t:=i.yK _ (Vf r);exists rT T e l λa5 aj=>?_;exists bE a aj l rfl z λa' ar=>?_;exists rT T e l λa6 ak=>?_;exists bE (a-1) ak l ⋯ q λba as=>?_;exists bT G l ar as ⟨C.sz,n.sz⟩ λaK M aY b ac=>?_;exists uM T (b.up e) b.sub λa7 al=>?_;exists bE a al b.sub rfl B λbb av=>?_;exists uM T (b.up e) b.sub λa8 an=>?_;exists bE (a-1) an b.sub ⋯ r λbc aA=>?_;exists bT M b.sub av aA ⟨D.sz,t.sz⟩ λaM N a0 j ad=>?_;have u:=b.trans j;exists rT T (u.up e) j.sub λa9 ao=>?_;exists bE (a-1) ao j.sub ⋯ q λbd aB=>?_;exists bT N j.sub (u.up ab) aB ⟨I.sz,n.sz⟩ λaN O a1 d ae=>?_;have F:=u.trans d;exists uM T (F.up e) d.sub λa_ aq=>?_;exists bE (a-1) aq d.sub ⋯ r λbe aD=>?_;walk_at "go";have x:=D.dS t;have y:=I.dS n;have L:=C.dS n;refine bT O d.sub (d.up ad) ae ⟨x.sz,y.sz⟩ λaO R a2 o af=>?_;exists bT R o.sub af ((j.trans (d.trans o)).up ac) ⟨(x.bI y).sz,L.sz⟩ λaQ S a3 v ag=>?_;exists bT S v.sub ((o.trans v).up aD) ag ⟨t.sz,((x.bI y).cU L).sz⟩ λaR aI a4 Y ai=>?_;exact k _ _ _ (F.trans ((o.trans v).trans Y)) ai
def DS{p a:Fr}(d:FB 20 p)(i:0<p.2)(b:FB 60 a)(h:0<a.2):FB 200 (jv p a):=by
 unfold jv;split
 ·rename_i c;have f:0<p.1:=by
   unfold above at c;have:=Wy c;simpa using this
  have g:(0:Int)<(cU a p).2:=WK h f;have e:FB 80 ((cU a p).1/(cU a p).2,1):=⟨((b.cU d).1.div g),(by show intBits 1<=80;decide)⟩
  exact(b.dS (e.bI d)).aF
 ·exact b.aF
def Qa(T:Tx P K mg A):Fn P w K mg ah 43 "value_at" ["wave","time"] (b6 (eY K A) (RF K) (RF K) (λw i=>fh w/\FB 60 i/\0<i.2) valueAt):=by
 have O:=qf w ah T;have R:=PR w ah T;have S:=Qb w ah T;refine T.Mh.fn Ar b6.aC λf ao ag aA s H vs Q E v h=>?_;obtain⟨G,M,N,a,i,rfl,L,n,W,⟨b,F,I⟩,k⟩:=h;refine⟨_,(au (bo 2 Ar.nd (aL R v (aV (ay K ap) ax)))
   (au (dY VJ rfl (zt (by rfl) T.hR (aV az (eE K T.eu (ay K ap)))) (bU 3 Ar.nd)
    (aw (a_ (d8 (aL O v (aV (px K (ay K ap) aZ) aP)))
    (aw (aJ (aL S v (bZ ap aZ aP))))
    bx)))
   (aw (aJ (px K (ay K ap) (gX g9 az)))))),?_⟩
 try simp only[bn]
 refine br [some M,some N,none,none] ?_;have ar:=b.aC;have av:=b.pos;have as:=b.most;exists MS T n L λaF ab=>?_;exists bT G L ab W ⟨b.zp,b.zq,F,I⟩ λaj z ae o J=>?_;have D:=DS b.zp b.zq F I;exists rT T (o.up n) o.sub λaG ac=>?_;exists eZ ac o.sub ?_;exists⟨1,a.cD.length,rfl,⟨⋯,⋯,⋯,⋯⟩,?_⟩;rw[show((a.cD.length:Int)-1).toNat=a.cD.length-1 by lia];refine mB (G:=z) (λj y r m=>al H G r m/\aB z m/\(∃u:b9,y=[some M,some N,some ae,u])/\lZ a (jv a.period i) (a.cD.length-1-j) (1+j)=valueAt a i) ⟨o,aB.refl _,⟨none,rfl⟩,rfl⟩ ?_ ?_
 ·rintro j y r m aq ⟨e,q,⟨u,rfl⟩,g⟩;have l:=e.sub;have C:a.cD[1+j]? =some (a.cD.getD (1+j) am):=getD_some ⋯;exists rT T (e.up n) l λaf x=>?_;exists bE (1+j) x l ⋯ C λaH ad=>?_;exists bT m l ad (Mo.mo q J) ⟨(b.vF _ (Vf C)).sz,D.sz⟩ λak B aD p Y=>?_;subst Y;have t:=e.trans p;rw[show a.cD.length-1-j=a.cD.length-1-(j+1)+1 by lia] at g;unfold lZ at g;walk_at "go";cases c:above (a.cD.getD (1+j) am) (jv a.period i) with
  |true=>
   refine jV ?_;rw[Vh c] at g;exists gU B p.sub (t.up n) rfl (Mo.mo (q.trans p.gs) J) ⟨b,⋯,⋯,D⟩ λan ai aE V aa=>?_;refine k _ _ _ (t.trans V) ?_;rw[<-g];have:((1:Int)+(j:Int)).toNat=1+j:=by lia
   rw[show qM a (1+j) (jv a.period i)=qM a ((1:Int)+(j:Int)).toNat (jv a.period i) by rw[this]];exact aa
  |false=>refine iP ?_;rw[Vg (by rw[c];decide)] at g;exists⟨B,t,q.trans p.gs,⟨_,rfl⟩,g⟩
 ·rintro y r m ⟨e,q,⟨u,rfl⟩,g⟩;have l:=e.sub;rw[show a.cD.length-1-(a.cD.length-1)=0 by lia] at g;exists uM T (e.up n) l λaf x=>?_;exists CP (d:=am) x l ⋯ λu X=>k _ _ _ e ?_;rw[<-g];exact X
def oO{x:Fr}(h:cO x.1 x.2=true):FB 20 x/\0<x.2:=by unfold cO at h;simp only[Vt,Vp] at h;exact⟨⟨Bt.of (by omega),Bt.of (by omega)⟩,by omega⟩
def ub(K:Frag):Hp->aQ->dX->Prop:=λG us n=>∃a b c,us=[a,b,c,.int n.length]/\RF K G a n.period/\RL (RF K) G b n.cD/\RL (RF K) G c n.fP
def Pl(T:Tx P K mg A):kL P w K mg ah 41 A.fJ ["self","period","moments","levels","length"] (oZ A.fJ (ub K) (pG K A)):=by
 refine T.Ld.fn RU (by rintro vs H Q E ⟨_,_,_,_,_,rfl,_,_,_,⟨_,_,_,rfl,_⟩,_⟩;rfl) λf N L R s H vs Q E O h=>?_;obtain⟨G,x,b,_,n,rfl,F,e,p,⟨a,c,d,rfl,z,B,C⟩,k⟩:=h;obtain⟨I,ev⟩:∃v,v=V.ref x:=⟨_,rfl⟩
 obtain⟨J,o⟩:∃v,v=V.int n.length:=⟨_,rfl⟩
 rw[<-ev, <-o];refine⟨_,(au (cY K ap ax)
   (au (cY K ap aP)
   (au (cY K ap aZ)
   (aw (cY K ap bP))))),?_⟩
 try simp only[bn]
 refine br [some I,some a,some c,some d,some J] ?_;subst ev o;exists cX p T.ny T.Ei (by show 0<1000;decide) ?_;have t:=bG.put (o':=.aA A.fJ b (aD "period" a [])) F p e;have g:ai H x (.aA A.fJ b (aD "period" a [])) x=some (.aA A.fJ b (aD "period" a [])):=aS;have q:(aD "period" a []).length<=1:=iB (by simp);generalize ai H x (.aA A.fJ b (aD "period" a []))=l at t g ⊢;exists cX g T.ny T.Eh (Vl q ∅) ?_;have u:=t.iW (o':=.aA A.fJ b (aD "moments" c (aD "period" a []))) g e;have i:ai l x (.aA A.fJ b (aD "moments" c (aD "period" a []))) x=some (.aA A.fJ b (aD "moments" c (aD "period" a []))):=aS;have r:=iB (f:="moments") (v:=c) q;generalize ai l x (.aA A.fJ b (aD "moments" c (aD "period" a [])))=m at u i ⊢;exists cX i T.ny T.Eg (Vl r ∅) ?_;have y:=u.iW (o':=.aA A.fJ b (aD "levels" d (aD "moments" c (aD "period" a [])))) i e;have j:ai m x (.aA A.fJ b (aD "levels" d (aD "moments" c (aD "period" a [])))) x=some (.aA A.fJ b (aD "levels" d (aD "moments" c (aD "period" a [])))):=aS;have D:=iB (f:="levels") (v:=d) r;generalize ai m x (.aA A.fJ b (aD "levels" d (aD "moments" c (aD "period" a []))))=M at y j ⊢;exists cX j T.ny T.Ef (Vl D ∅) ?_;refine k _ _ _ (y.iW j e) aS e ?_;exact⟨⟨_,by walk_at "lk",z⟩,⟨_,by walk_at "lk",B⟩,⟨_,by walk_at "lk",C⟩,⟨_,by walk_at "lk",rfl⟩⟩
def PP(T:Tx P K mg A):Fn P w K mg ah 42 "may_be_period" ["period","last"] (b6 (RF K) (RF K) RB (λp l=>FB 20 p/\FB 20 l) jY):=by
 have b:=qf w ah T;refine T.LN.fn Sb b6.aC λf v r x s H vs Q E m h=>?_;obtain⟨G,o,q,p,l,rfl,a,e,g,⟨j,i⟩,k⟩:=h;refine⟨_,(aw (aJ (EZ (ff cp (px K ap az) az) (nH (aL b m (aV ap ax)))))),?_⟩
 try simp only[bn]
 refine br [some o,some q] ?_;walk_at "go";by_cases c:p.1=0
 ·refine bv c ?_;exact k _ _ _ (al.refl a) (by unfold jY;rw[Vx c];rfl)
 ·refine bf c ?_;exists bT G a e g ⟨j.sz,i.sz⟩ λu t y d n=>k _ _ _ d ?_;unfold jY;rw[VF c];exact n
def P6(T:Tx P K mg A):Fn P w K mg ah 42 "rise_from_zero" ["moments"] (bW (RL (RF K)) RB (λa=>0<a.length/\a.length<=100/\∀x∈a,FB 20 x) jD):=by
 have y:=qf w ah T;refine T.L9.fn HJ bW.aC λf O M V s H vs Q E D h=>?_;obtain⟨G,t,a,rfl,g,d,⟨C,R,r⟩,k⟩:=h;refine⟨_,(au (a_ (bg jf (px K (px K ap az) az) az)
    (aw (aJ ic))
    bx)
   (au (dY VJ rfl (zt (by rfl) T.hR (aV az (eE K T.eu ap))) (bU 1 HJ.nd)
    (aw (a_ (jC (d8 (aL y D (aV (px K ap ax) (px K ap (bF jg ax az))))))
    (aw (aJ ic))
    bx)))
   (aw (aJ ic)))),?_⟩
 try simp only[bn]
 refine br [some t,none] ?_;have z:a[0]? =some (a.getD 0 am):=getD_some C;exists bE 0 d g rfl z λu S=>?_;walk_at "go";by_cases c:(a.getD 0 am).1=0
 case neg=>rw[Vh (kW c)];exists k _ _ _ (al.refl g) (by unfold jD;rw[VF c];rfl)
 rw[Vg (lI c)];exists eZ d g ?_;exists⟨1,a.length,rfl,⟨⋯,⋯,⋯,⋯⟩,?_⟩;rw[show((a.length:Int)-1).toNat=a.length-1 by lia];refine mB (G:=G) (λj m i b=>al H G i b/\(∃u:b9,m=[some t,u])/\((List.range j).all λj=>above (a.getD (j+1) am) (a.getD j am))=true) ⟨al.refl g,⟨none,rfl⟩,rfl⟩ ?_ ?_
 ·rintro j m i b B ⟨e,⟨u,rfl⟩,l⟩;have n:a[j+1]? =some (a.getD (j+1) am):=getD_some ⋯;have o:a[j]? =some (a.getD j am):=getD_some ⋯;exists bE (j+1) (e.up d) e.sub ⋯ n λX I=>?_;exists bE j (e.up d) e.sub ⋯ o λY J=>?_;exists bT b e.sub I J ⟨(r _ (Vf n)).sz,(r _ (Vf o)).sz⟩ λN v W q F=>?_;subst F;walk_at "go";cases p:above (a.getD (j+1) am) (a.getD j am) with
  |false=>
   exists k _ _ _ (e.trans q) ?_;have:((List.range (a.length-1)).all λj=>above (a.getD (j+1) am) (a.getD j am))=false:=by rw[<-W7,VO];intro L;have:=L j (VB.mpr B);rw[p] at this;cases this
   unfold jD;rw[this,Bool.and_false];rfl
  |true=>exists⟨v,e.trans q,⟨_,rfl⟩,?_⟩;rw[V2,Xs,l];show(true&&(above (a.getD (j+1) am) (a.getD j am)&&true))=true;rw[p];rfl
 ·rintro m i b ⟨e,⟨u,rfl⟩,l⟩;exists k _ _ _ e ?_;unfold jD;rw[l,Vx c];rfl
def Ep(b:ao)(a m:Nat):(bS b a m).length=1+2*m:=by unfold bS;rw[Vn,Wz]
def oP(l:aG)(s m:Nat):(cC l s m).length=m:=by unfold cC;rw[Vn,Wz]
def zc{l:aG}{s m:Nat}(h:s+2*m<=l.length+1):∀x∈cC l s m,x∈l:=by intro x a;unfold cC at a;obtain⟨j,b,rfl⟩:=Vz.mp a;have:=VB.mp b;exact eD ⋯
def TD{b:ao}{a:Nat}{c:dX}(h:fV b a=some c):fh c/\7<=c.length/\c.length<=35/\a+c.length<=b.length:=by
 unfold fV at h;split at h
 ·cases h
 rename_i k;split at h
 ·cases h
 rename_i l
 try dsimp only at h
 split at h
 ·cases h
 rename_i j;split at h
 ·cases h
 have e:=Vr h;subst e;have p:b.getD a 0=((b.getD a 0).toNat:Int):=by omega
 generalize n:(b.getD a 0).toNat=m at*;have q:1<=m:=by omega
 have r:m<=8:=by omega
 have f:∀x∈bS b a m,cO x.1 x.2=true:=by have:=(Bool.not_eq_false _).mp j;exact VO.mp this
 have o:=Ep b a m;have i:=oO (f _ (eD (d:=am) (show 0<(bS b a m).length by omega)));refine⟨⟨?_,?_,?_,i.1,λx g=>(oO (f x (zc (by omega) x g))).1,λx g=>(oO (f x (zc (by omega) x g))).1,i.2⟩,?_,?_,?_⟩
 ·show(cC _ 1 m).length=(cC _ 2 m).length;rw[oP,oP]
 ·show 0<(cC _ 1 m).length;rw[oP];omega
 ·show(cC _ 1 m).length<=8;rw[oP];omega
 ·show 7<=3+4*b.getD a 0;omega
 ·show 3+4*b.getD a 0<=35;omega
 ·show(a:Int)+(3+4*b.getD a 0)<=b.length;omega
def Qc(T:Tx P K mg A):Fn P w K mg ah 43 "wave_at" ["row","at"] (b6 (RL RI) RI (RO (eY K A)) (λg a=>g.length<=1000/\0<=a/\a<=1000) λg a=>fV g a.toNat):=by
 have bh:=EE w ah T;have bj:=P6 w ah T;have bi:=PP w ah T;have be:=Pl w ah T;refine T.Ml.fn lx b6.aC λf cb b3 cg s H vs Q E W h=>?_;obtain⟨G,a6,b2,g,aF,rfl,z,y,bB,⟨ce,cc,cd⟩,k⟩:=h;refine⟨_,(au (a_ ((j5 (bg zk ax (eE K T.eu ap)) (j5 (bg mO (px K ap ax) az) (lT (bg iT (px K ap ax) (aY T.J_)))))).pt
    (aw (aJ d7))
    bx)
   (au (bo 2 lx.nd (bF je (aY T.J2) (bF eQ (aY T.J') (px K ap ax))))
   (au (a_ (bg iT (bF je ax aP) (eE K T.eu ap))
    (aw (aJ d7))
    bx)
   (au (bo 3 lx.nd (j2 rfl lx.nd (sO (by rfl) T.hR (bZ (bF je ax az) (bF je ax aP) az)) (hW (own:=[("k",4)]) (by show gC ["row","at","length","numbers","k","x","period","moments","levels"] (aM sT) _ _=true;decide+kernel)) (λ_ _ _ _ _=>(bU 4 lx.nd)) (λ_ _ _ _ _=>iV) (λ_ _ _ _ _=>(dC (aV (px K ap bP) (px K ap (bF je bP az)))))))
   (au (dY VJ rfl (gY (K:=K) aZ) (bU 5 lx.nd)
    (aw (a_ (jC (d8 (aL bh W (aV (px K da az) (px K da az)))))
    (aw (aJ d7))
    bx)))
   (au (bo 6 lx.nd (px K aZ az))
   (au (sR (i:=7) rfl lx.nd rfl rfl (tu rfl rfl rfl rfl) (sO (by rfl) T.hR (bZ az (eE K T.eu aZ) az)) (hW (own:=[("k",4)]) (by show gC ["row","at","length","numbers","k","x","period","moments","levels"] (aM sT) _ _=true;decide+kernel)) (λ_ _ _ _ _=>(bU 4 lx.nd)) (λ_ _ _ _ _=>iV) (λ_ _ _ _ _=>(px K aZ bP)))
   (au (sR (i:=8) rfl lx.nd rfl rfl (tu rfl rfl rfl rfl) (sO (by rfl) T.hR (bZ az (eE K T.eu aZ) az)) (hW (own:=[("k",4)]) (by show gC ["row","at","length","numbers","k","x","period","moments","levels"] (aM sT) _ _=true;decide+kernel)) (λ_ _ _ _ _=>(bU 4 lx.nd)) (λ_ _ _ _ _=>iV) (λ_ _ _ _ _=>(px K aZ bP)))
   (au (a_ ((j5 (jC (d8 (aL bj W (a9 gZ)))) (lT (jC (d8 (aL bi W (aV eF (px K gZ (gX g9 az))))))))).pt
    (aw (aJ d7))
    bx)
   (aw (aJ (nG be T.Oq W (f9 eF (bZ gZ vW aP)))))))))))))),?_⟩
 try simp only[bn]
 refine br [some a6,some b2,none,none,none,none,none,none,none] ?_;subst bB;obtain⟨a,rfl⟩:∃a:Nat,aF=(a:Int):=⟨aF.toNat,⋯⟩
 replace k:∀(n l:Hp)(v:V),al H G n l->RO (eY K A) l v (fV g a)->Q v n:=k
 have X:=al.refl z;exists eZ y z ?_;walk_at "go";have t:∀n l,al H G n l->fV g a=none->Q .aO n:=λn l e h=>k n l _ e (by rw[h];rfl);by_cases aH:(g.length:Int)<=(a:Int)
 ·refine bv aH ?_;exists t _ _ X (by unfold fV;rw[Vh (Or.inl ⋯)])
 refine bf aH ?_;have an:g[a]? =some (g.getD a 0):=getD_some ⋯;exists bE a y z rfl an λu o=>?_;subst o;walk_at "go";by_cases ad:g.getD a 0<1
 ·refine bv ad ?_;exists t _ _ X (by unfold fV;rw[Vh (Or.inr (Or.inl ad))])
 refine bf ad ?_;exists bE a y z rfl an λu o=>?_;subst o;walk_at "go";by_cases ae:8<g.getD a 0
 ·refine bv ae ?_;exists t _ _ X (by unfold fV;rw[Vh (Or.inr (Or.inr ae))])
 refine bf ae ?_;obtain⟨m,bK⟩:∃m:Nat,g.getD a 0=(m:Int):=⟨(g.getD a 0).toNat,⋯⟩
 have bL:(g.getD a 0).toNat=m:=by lia
 have aG:¬(g.length<=a\/g.getD a 0<1\/8<g.getD a 0):=by lia
 have cf:IntMulOk 4 (g.getD a 0):=IntMulOk.of_left ∅;exists bE a y z rfl an λu o=>?_;subst o;exists eZ y z ?_;walk_at "go";by_cases aI:(g.length:Int)<(a:Int)+(3+4*g.getD a 0)
 ·refine bv aI ?_;exists t _ _ X (by unfold fV;rw[Vg aG,Vh ⋯])
 refine bf aI ?_;have bp:¬g.length<a+(3+4*(g.getD a 0).toNat):=by lia
 have L:fV g a=(if ((bS g a m).all λx=>cO x.1 x.2)=false then none
   else if jD (cC (bS g a m) 1 m)=false\/jY ((bS g a m).getD 0 am) ((cC (bS g a m) 1 m).getD (m-1) am)=false then none
   else some ⟨(bS g a m).getD 0 am,cC (bS g a m) 1 m,cC (bS g a m) 2 m,3+4*g.getD a 0⟩):=by
  unfold fV;rw[Vg aG,Vg bp,bL]
 have a1:=Ep g a m;exists⟨((a+1:Nat):Int),((a+(3+4*m):Nat):Int),2,1+2*m,by rw[bK];push_cast;rfl,zP ⋯ ⋯,?_⟩
 refine oK (rr:=RF K) (G:=G) (1+2*m) (λj=>((a+1:Nat):Int)+(j:Nat)*2) (λj=>(List.range j).map λj=>(g.getD (a+1+2*j) 0,g.getD (a+2+2*j) 0)) z (by simp)
  (λj O=>by rw[Vn,Wz];exact dB ⋯) (λ_ _ h=>h) (λ_=>Vm _) (λ_ _ _ _ h=>h) (λ_=>rfl) ?_ ?_
 ·intro j n l C ay O e M _;have bl:g[a+1+2*j]? =some (g.getD (a+1+2*j) 0):=getD_some ⋯;have bm:g[a+2+2*j]? =some (g.getD (a+2+2*j) 0):=getD_some ⋯;walk_at "go";exists bE (a+1+2*j) (e.up y) e.sub ⋯ bl λu o=>?_;subst o;exists bE (a+2+2*j) (e.up y) e.sub ⋯ bm λu o=>?_;subst o;exists⟨dh,λp bN=>M _ (g.getD (a+1+2*j) 0,g.getD (a+2+2*j) 0) _ _ (al.new e.sub bN) (RF.new (x:=(g.getD (a+1+2*j) 0,g.getD (a+2+2*j) 0))) ?_⟩;rw[V2,VN];rfl
 intro b5 aA J ys bq bC bD aU bO;have af:=bq.gr bC bD aU;have ar:RL (RF K) (ai aA J (.aq ys)) (.ref J) (bS g a m):=RL.new aU bO;generalize ai aA J (.aq ys)=a' at af ar;exists mz (r:=RF K) (λj aa n l=>al H G n l/\aB a' l/\(((bS g a m).take j).all λx=>cO x.1 x.2)=true/\∃u:b9,aa=[some a6,some (.int a),some (.int (3+4*g.getD a 0)),some (.ref J),none,u,none,none,none]) ar af.sub
  ⟨af,aB.refl _,by simp,none,rfl⟩ (λj aa n l p=>⟨p.2.1,p.1.sub⟩) ?_ ?_
 ·rintro j x u aa n l q o ⟨e,bz,N,b1,rfl⟩;have b0:=e.sub;exists bT l b0 rfl rfl trivial λbk S ci B bW=>?_;subst bW;walk_at "go";cases c:cO x.1 x.2 with
  |false=>
   exists t _ _ (e.trans B) ?_;have:((bS g a m).all λx=>cO x.1 x.2)=false:=by rw[<-W7,VO];intro av;have:=av x (Vf q);rw[c] at this;cases this
   rw[L,Vh this]
  |true=>exists⟨S,e.trans B,bz.trans B.gs,?_,_,rfl⟩;rw[VU,q,Xs,N];show(true&&(cO x.1 x.2&&true))=true;rw[c];rfl
 rintro aa bk S ⟨B,bA,N,b1,rfl⟩;rw[Wj] at N;rw[Vg (by rw[N];decide)] at L;have a0:∀x∈bS g a m,FB 20 x:=λx q=>(oO (VO.mp N x q)).1;have as:=B.sub;have R:RL (RF K) S (.ref J) (bS g a m):=Mo.mo bA ar;exists bE 0 R as rfl (getD_some (d:=am) ⋯) λcm a4=>?_;exists eZ R as ?_;exists⟨1,((1+2*m:Nat):Int),2,m,by rw[a1],zP (i:=1) ⋯ ⋯,?_⟩
 refine oK (rr:=RF K) (G:=S) m (λj=>1+(j:Nat)*2) (λj=>cC (bS g a m) 1 j) as (by simp[cC])
  (λj O=>by rw[oP];exact dB ⋯) (λ_ _ h=>h) (λ_=>Vm _) (λ_ _ _ _ h=>h) (λ_=>rfl) ?_ ?_
 ·intro j n l C ay O e M _;walk_at "go";exists bE (1+2*j) (e.up R) e.sub ⋯ (getD_some (d:=am) ⋯) λu o=>M _ _ _ _ (al.refl e.sub) o ?_;unfold cC;rw[V2,VN];rfl
 intro b8 aD ab a7 bt bG bI aW bQ;have D:=bt.gr bG bI aW;have Y:RL (RF K) (ai aD ab (.aq a7)) (.ref ab) (cC (bS g a m) 1 m):=RL.new aW bQ;generalize ai aD ab (.aq a7)=ba at D Y;exists eZ (D.up R) D.sub ?_;exists⟨2,((1+2*m:Nat):Int),2,m,by rw[a1],zP (i:=2) ⋯ ⋯,?_⟩
 refine oK (rr:=RF K) (G:=ba) m (λj=>2+(j:Nat)*2) (λj=>cC (bS g a m) 2 j) D.sub (by simp[cC])
  (λj O=>by rw[oP];exact dB ⋯) (λ_ _ h=>h) (λ_=>Vm _) (λ_ _ _ _ h=>h) (λ_=>rfl) ?_ ?_
 ·intro j n l C ay O e M _;walk_at "go";exists bE (2+2*j) (e.up (D.up R)) e.sub ⋯ (getD_some (d:=am) ⋯) λu o=>M _ _ _ _ (al.refl e.sub) o ?_;unfold cC;rw[V2,VN];rfl
 intro b_ aE ac a8 bu bH bJ aX bR;have F:=bu.gr bH bJ aX;have a5:RL (RF K) (ai aE ac (.aq a8)) (.ref ac) (cC (bS g a m) 2 m):=RL.new aX bR;generalize ai aE ac (.aq a8)=bb at F a5;have bM:=oP (bS g a m) 1 m;have a2:∀x∈cC (bS g a m) 1 m,FB 20 x:=λx q=>a0 x (zc ⋯ x q);exists dG bb F.sub (F.up Y) ⟨⋯,⋯,a2⟩ λb' bc cj I bX=>?_;subst bX;have ag:=D.trans F;have aR:=(B.trans ag).trans I;walk_at "go";cases aK:jD (cC (bS g a m) 1 m) with
 |false=>exists t _ _ aR (by rw[L,Vh (Or.inl aK)])
 |true=>
  exists CP (d:=am) ((F.trans I).up Y) I.sub ⋯ λcl a3=>?_;rw[bM] at a3;exists bT bc I.sub ((ag.trans I).up a4) a3 ⟨a0 _ (eD ⋯),a2 _ (eD ⋯)⟩ λca bd ck ak bY=>?_;subst bY;have aS:=aR.trans ak;walk_at "go";cases aN:jY ((bS g a m).getD 0 am) ((cC (bS g a m) 1 m).getD (m-1) am) with
  |false=>exists t _ _ aS (by rw[L,Vh (Or.inr aN)])
  |true=>
   refine iP ?_;have bw:fV g a=some ⟨(bS g a m).getD 0 am,cC (bS g a m) 1 m,cC (bS g a m) 2 m,3+4*g.getD a 0⟩:=by rw[L,Vg (by rw[aK,aN];simp)]
   have aj:=I.trans ak;exists yi (rr:=eY K A) (b:=⟨(bS g a m).getD 0 am,cC (bS g a m) 1 m,cC (bS g a m) 2 m,3+4*g.getD a 0⟩) bd ak.sub ⟨_,_,_,rfl,(ag.trans aj).up a4,(F.trans aj).up Y,aj.up a5⟩ (λG x aQ aT q ao=>eY.new q ao) λb7 b4 ch bs bV=>?_;refine k _ _ _ (aS.trans bs) ?_;rw[bw];obtain⟨x,aQ,aT,rfl,q,ao⟩:=bV;exact⟨(λav=>nomatch av),x,aQ,aT,rfl,q,ao⟩
def TK(b:ao)(p:cJ)(r:bh)(a:Nat):bN b (p::r) a=if dg p.kind=true then (match fV b a with
   |none=>[]
   |some w=>some w::bN b r (a+w.length.toNat)) else none::bN b r a:=rfl
def CC{l:c_}{j:Nat}{p:Option dX}(h:l[j]? =some p):(l.take (j+1)).flatMap ju=(l.take j).flatMap ju++ju p:=by rw[VU,h,WQ];simp
theorem N7:∀p:Option dX,(ju p).length<=1
 |none=>by simp[ju]
 |some w=>by simp[ju]
theorem CB:∀l:c_,(l.flatMap ju).length<=l.length
 |[]=>by simp
 |p::l=>by
  rw[VZ,Vw,Vu];have:=N7 p;have:=CB l
  lia
def PM(T:Tx P K mg A):Fn P w K mg ah 41 "length_of" ["waves"] (bW (RL (RO (eY K A))) RI (λws=>ws.length<=100) fq):=by
 refine T.LK.fn Al bW.aC λf X R ab s H vs Q E aa h=>?_;obtain⟨G,O,ws,rfl,v,d,Y,k⟩:=h;refine⟨_,(aw (aJ (sL (BL (K:=K)) (by rfl) T.Br Bz (a9 (j2 rfl Al.nd (gY (K:=K) ap) (hW (own:=[("wave",1)]) (by show gC ["waves","wave"] (aM z0) _ _=true;decide+kernel)) (λ_ _ _ _ _=>(bU 1 Al.nd)) (λ_ _ _ _ _=>(Fp (bg Ql ax d7))) (λ_ _ _ _ _=>(ay K ax))))))),?_⟩
 try simp only[bn]
 refine br [some O,none] ?_;obtain⟨a,us,rfl,o,p⟩:=d;have I:us.length=ws.length:=VP p;have i:∀{b c},al H G b c->aT K b a us:=λe=>aT.of (e.ib _ _ o);exists⟨a,rfl,⟨us,aT.of (v _ _ o)⟩,?_⟩;refine vm (rr:=RI) (G:=G) ws.length (λj=>(ws.take j).flatMap ju) v (by simp) (λj g=>?_) ?_ ?_ ?_ ?_
 ·have:=CB (ws.take j);rw[V0] at this;exact dB ⋯
 ·intro j b c g e;exact⟨us,us[j],i e,by simp[I,g]⟩
 ·intro b c e;exact⟨us,i e,⋯⟩
 ·rintro j b c u W C S g e ⟨rfl,y⟩ D F;have L:=y us (i e);obtain⟨x,q,r⟩:=Paired.jb p L;have t:=e.sub;refine uT ⟨rfl,?_⟩;cases x with
  |none=>have N:u=.aO:=r;subst N;exists iP ?_;refine F _ _ (al.refl t) ?_;show(ws.take (j+1)).flatMap ju=_;rw[CC q];simp[ju]
  |some z=>obtain⟨J,M⟩:u≠ .aO/\eY K A G u z:=r;have ac:=e.up M;walk_at "go";rw[Vh (kW J)];exists D _ z.length _ _ (al.refl t) rfl ?_;show(ws.take (j+1)).flatMap ju=_;rw[CC q];rfl
 ·intro b c V ys e d B m n;rw[Wj] at n;have l:=e.gr d B m;exists C5 (RL.new m n) l.sub ?_;exact k b _ _ l rfl
def Qd(T:Tx P K mg A):Fn P w K mg ah 44 "waves_of" ["parts","row"] (b6 (RL (dH K A)) (RL RI) (RL (RO (eY K A))) (λaf d=>af.length<=10/\d.length<=300) λaf d=>bN d af 0):=by
 have aE:=EC w ah T;have aF:=Qc w ah T;refine T.Mm.fn qw b6.aC λf aY aU a6 s H vs Q E ar h=>?_;obtain⟨G,aB,aD,af,d,rfl,aA,aG,aH,⟨a0,a1⟩,k⟩:=h;refine⟨_,(au (bo 2 qw.nd (dk j1))
   (au (bo 3 qw.nd az)
   (au (dY VJ rfl (gY (K:=K) ap) (bU 4 qw.nd)
    (au (a_ (jC (d8 (aL aE ar (a9 (ay K bP)))))
    (au (dU (lQ K aP d7))
   (aw zC))
    bx)
   (au (bo 5 qw.nd (aL aF ar (aV ax aZ)))
   (au (a_ (bg lh da d7)
    (aw (aJ aP))
    bx)
   (au (dU (lQ K aP da))
   (aw (zB (i:=3) qw.nd rfl (Or.inl rfl) (ay K da) yx)))))))
   (aw (aJ aP))))),?_⟩
 try simp only[bn]
 refine br [some aB,some aD,none,none,none,none] ?_
 replace k:∀(q g:Hp)(v:V),al H G q g->RL (RO (eY K A)) g v (bN d af 0)->Q v q:=k
 exists⟨We _,λl y=>?_⟩;have ag:al H G (ai H l (.aq [])) G:=al.kH aA y;exists mz (r:=dH K A) (λj O q g=>al H G q g/\g l=none/\(∃(ys:aQ)(n:c_)(a:Nat),q l=some (.aq ys)/\Paired (RO (eY K A) g) ys n/\n.length=j/\a<=d.length/\n++bN d (af.drop j) a=bN d af 0/\
   ∃ad ae:b9,O=[some aB,some aD,some (.ref l),some (.int a),ad,ae])) aG ag.sub
  ⟨ag,aA.free y,[],[],0,aS,.nil,rfl,We _,rfl,none,none,rfl⟩ (λj O q g p=>⟨p.1.gs,p.1.sub⟩) ?_ ?_
 ·rintro j x u O q g as a2 ⟨e,F,ys,n,a,M,J,L,ak,b,ad,ae,rfl⟩;have aT:=e.sub;have aK:=(Vj.mp as).1;have aI:af.drop j=x::af.drop (j+1):=by
   rw[W2 aK];congr 1;exact(Vj.mp as).2
  rw[aI] at b;have av:ys.length<sizeLine:=by rw[VP J,L];exact dB ⋯
  exists dG g aT rfl trivial λaW R ba B aN=>?_;subst aN;have X:=e.trans B;have N:=B.hs _ _ M;have aa:R l=none:=B.fr l F (by rw[M];exact λt=>nomatch t);have an:=Paired.imp (λ_ _ t=>Mo.mo (r:=RO (eY K A)) B.gs t) J;walk_at "go";rw[TK] at b;cases c:dg x.kind with
  |false=>rw[Vg (by rw[c];decide)] at b;exists jW N ?_;exists lM N av ?_;exists⟨R,X.eV y aa,aa,_,n++[none],a,aS,Xw an rfl,by rw[Vw,L];rfl,ak,?_,_,_,rfl⟩;rw[Xd];exact b
  |true=>
   rw[Vh c] at b;exists bT R B.sub (X.up aH) rfl ⟨⋯,⋯,⋯⟩ λS z o C m=>?_
   replace m:RO (eY K A) z o (fV d a):=m
   have aj:=X.trans C;have ac:=C.hs _ _ N;have I:z l=none:=C.fr l aa (by rw[N];exact λt=>nomatch t);have ao:=Paired.imp (λ_ _ t=>Mo.mo (r:=RO (eY K A)) C.gs t) an;have a8:=C.sub;cases W:fV d a with
   |none=>
    rw[W] at m b
    replace m:o=.aO:=m
    subst m;walk_at "go";rw[Vh ∅];exists k _ _ _ (aj.gr y ac I) ?_;have ab:n=bN d af 0:=by rw[<-b];simp
    rw[<-ab];exact RL.new I ao
   |some D=>
    rw[W] at m b;have aR:=m;obtain⟨aM,a7⟩:o≠ .aO/\eY K A z o D:=m;obtain⟨_,a3,a4,a5⟩:=TD W;exists bf aM ?_;exists jW ac ?_;exists lM ac av ?_;have Y:al H G (ai S l (.aq (ys++[o]))) z:=aj.eV y I;have am:ai S l (.aq (ys++[o])) l=some (.aq (ys++[o])):=aS;generalize ai S l (.aq (ys++[o]))=aX at Y am ⊢;have a':=Y.sub;exists yg ?_;refine⟨z,Y,I,_,n++[some D],a+D.length.toNat,am,Xw ao aR,by rw[Vw,L];rfl,⋯,?_,some u,some o,?_⟩
    ·rw[Xd];exact b
    ·rw[show((a+D.length.toNat:Nat):Int)=(a:Int)+D.length by lia];rfl
 ·rintro O q g ⟨e,F,ys,n,a,M,J,L,ak,b,ad,ae,rfl⟩;rw[List.drop_length] at b;have ab:n=bN d af 0:=by rw[<-b];simp[bN]
  exists k _ _ _ (e.gr y M F) ?_;rw[<-ab];exact RL.new F J
theorem u0(G:Hp):∀a:ao,Paired (RI G) (a.map V.int) a
 |[]=>.nil
 |_::a=>.cons rfl (u0 G a)
def PU(T:Tx P K mg A):Fn P w K mg ah 42 "nodes_of" ["part"] (bW (dH K A) (RL RI) (λ_=>True) eP):=by
 have n:=EB w ah T;refine T.LU.fn Sf bW.aC λf z v C s H vs Q E r h=>?_;obtain⟨G,u,p,rfl,l,o,_,k⟩:=h;refine⟨_,(au (a_ (bg cp (ay K ap) (aY T.lH))
    (aw (aJ (dk j1)))
    bx)
   (au (a_ (d8 (aL n r (a9 (ay K ap))))
    (aw (aJ (dk (f9 (ay K ap) (bZ (ay K ap) (ay K ap) (ay K ap))))))
    bx)
   (aw (aJ (dk (aV (ay K ap) (ay K ap))))))),?_⟩
 try simp only[bn]
 refine br [some u] ?_;walk_at "go";by_cases g:p.kind=3
 ·refine bv g ?_;exists⟨We _,λq e=>k _ _ _ (al.new l e) ?_⟩;unfold eP;rw[Vh g];exact RL.new (l.free e) .nil
 refine bf g ?_;exists dG G l rfl trivial λy x D i t=>?_;subst t;have j:=i.sub;have B:=i.up o;walk_at "go";cases m:iQ p.kind with
 |true=>exists⟨by show 4<=sizeLine;decide,λq e=>k _ _ _ (i.trans (al.new j e)) ?_⟩;unfold eP;rw[Vg g,Vh m];exact RL.new (j.free e) (u0 _ [p.a,p.b,p.c,p.d])
 |false=>exists⟨dh,λq e=>k _ _ _ (i.trans (al.new j e)) ?_⟩;unfold eP;rw[Vg g,Vg (by rw[m];decide)];exact RL.new (j.free e) (u0 _ [p.a,p.b])
def PQ(T:Tx P K mg A):Fn P w K mg ah 41 "may_have_number" ["part"] (bW (dH K A) RB (λ_=>True) lO):=by
 refine T.LO.fn HD bW.aC λf C y J s H vs Q E D h=>?_;obtain⟨G,x,p,rfl,m,l,_,k⟩:=h;refine⟨_,(au (bo 1 HD.nd (px K (ay K ap) az))
   (au (a_ (vV (nE (K:=K)) (ay K ap) (dC (bZ (aY T.BG) (aY T.pN) (aY T.pO))) rfl)
    (aw (aJ (ff iT ax az)))
    bx)
   (au (a_ (bg cp (ay K ap) (aY T.ux))
    (aw (aJ (ff jf ax az)))
    bx)
   (au (a_ (bg cp (ay K ap) (aY T.uv))
    (aw (aJ (ff cp ax az)))
    bx)
   (au (a_ (bg cp (ay K ap) (aY T.BH))
    (aw (aJ (EZ (ff cp ax az) (nH (ff cp ax (px K (ay K ap) az))))))
    bx)
   (au (a_ (bg cp (ay K ap) (aY T.pP))
    (aw (aJ (ff zk ax az)))
    bx)
   (aw (aJ ic)))))))),?_⟩
 try simp only[bn]
 refine br [some x,none] ?_;exists ja T l m λL u=>?_;exists⟨by show 3<=sizeLine;decide,λn t=>oI [0,1,2] (bi.of aS) ?_⟩;have a:=al.new (o:=.aN [.int 0,.int 1,.int 2]) m t;generalize ai H n (.aN [.int 0,.int 1,.int 2])=B at a ⊢;generalize ai G n (.aN [.int 0,.int 1,.int 2])=z at a;have v:=a.sub;have r:=a.up l;have F:=a.up u;walk_at "go";cases j:gn [0,1,2] p.kind with
 |true=>exists k _ _ _ a (by unfold lO;rw[Vh j];rfl)
 |false=>
  refine iP ?_;have b:lO p=(if p.kind=10 then !decide (p.q.1=0) else if p.kind=11 then decide (p.q.1=0)
   else if p.kind=12 then decide (p.q.1=0)||decide (p.q.1=p.q.2) else if p.kind=13 then decide (0<=p.q.1) else true):=by unfold lO;rw[Vg (by rw[j];decide)]
  walk_at "go";by_cases c:p.kind=10
  ·refine bv c ?_;exists k _ _ _ a (by rw[b,Vh c];rfl)
  refine bf c ?_;rw[Vg c] at b;walk_at "go";by_cases e:p.kind=11
  ·refine bv e ?_;exists k _ _ _ a (by rw[b,Vh e];rfl)
  refine bf e ?_;rw[Vg e] at b;walk_at "go";by_cases g:p.kind=12
  ·refine bv g ?_;rw[Vh g] at b;walk_at "go";by_cases d:p.q.1=0
   ·refine bv d ?_;exact k _ _ _ a (by rw[b,Vx d];rfl)
   ·refine bf d ?_;exists ja T r v λM I=>?_;exists k _ _ _ a (by rw[b,VF d];rfl)
  refine bf g ?_;rw[Vg g] at b;walk_at "go";by_cases i:p.kind=13
  ·refine bv i ?_;exists k _ _ _ a (by rw[b,Vh i];rfl)
  refine bf i ?_;exists k _ _ _ a (by rw[b,Vg i];rfl)
def Py(T:Tx P K mg A):Fn P w K mg ah 41 "is_coil_before" ["parts","x","k"] (eG (RL (dH K A)) RI RI RB (λaf x k=>0<=x/\k<=af.length) fN):=by
 refine T.LA.fn R_ eG.aC λf o n v s H vs Q E q h=>?_;obtain⟨G,j,l,m,af,x,i,rfl,a,b,e,g,⟨t,p⟩,k⟩:=h;refine⟨_,(aw (aJ (lj (ff mO ax aP) (nH (ff cp (ay K (px K ap ax)) (aY T.pO)))))),?_⟩
 try simp only[bn]
 refine br [some j,some l,some m] ?_;subst e g;walk_at "go";by_cases c:x<i
 ·refine bv c ?_;exists bE x.toNat b a ⋯ (getD_some (d:=ae) ⋯) λu r=>?_;exists k _ _ _ (al.refl a) (by unfold fN;rw[Vx c];rfl)
 ·refine bf c ?_;exact k _ _ _ (al.refl a) (by unfold fN;rw[VF c];rfl)
def Rh(K:Frag):R2:=λx y H Q=>∃(p q r e:Addr)(i j a b c d:Int),x=.ref e/\bi K H e [.int i,.int j]/\y=.ref p/\bi K H p [.ref q,.ref r]/\bi K H q [.int a,.int b]/\bi K H r [.int c,.int d]/\q≠r/\
 Q (.bl ((decide (a=i)&&decide (b=j))||(decide (c=i)&&decide (d=j)))) H
def Co(a b i j:Int):PyData.eqv (.tuple [.int a,.int b]) (.tuple [.int i,.int j])=(decide (a=i)&&decide (b=j)):=by simp[PyData.eqv,PyData.eqvAll,Bool.beq_eq_decide_eq]
def Qj{X:Cx}{K:Frag}(ac:X.A.units+64<cLine)(h:X.K=K:=by rfl):ee X (compareOp .In) (Rh K):=by
 subst h;intro aa s ae H x y v u Q g P R h;obtain⟨p,q,r,w,i,j,a,b,c,d,rfl,J,rfl,E,F,G,z,k⟩:=h;cases P;cases R;obtain⟨ad,l,pl,B⟩:=g.tuple E;cases l with
 |cons M l=>
  cases l with
  |cons N l=>
   cases l;cases M;cases N;have t:∀{f:Addr}{m n:Int},bi X.K H f [.int m,.int n]->Dp X.K H (.ref f) (.tuple [.int m,.int n]):=λI=>.aN I (.cons (.int _) (.cons (.int _) .nil));obtain⟨S,D⟩:=Dp.oS g _ _ (.ref w) (t J) rfl;obtain⟨T,O⟩:=Dp.oS g _ _ (.ref q) (t F) rfl;obtain⟨V,rr⟩:=Dp.oS g _ _ (.ref r) (t G) rfl;have C:X.A.in1.units+min (PyData.tuple [.int a,.int b]).depth (PyData.tuple [.int i,.int j]).depth<cLine:=by
    have W:(PyData.tuple [.int a,.int b]).depth<=8:=by simp[PyData.depth,PyData.depthAll]
    have Y:=Nat.min_le_left (PyData.tuple [.int a,.int b]).depth (PyData.tuple [.int i,.int j]).depth;have ab:X.A.in1.units=X.A.units+1:=rfl
    lia
   have o:∀m n:Int,(PyData.tuple [.int m,.int n]).canLay0=true:=λm n=>by rfl
   refine SeqAt.in_tupleAt (λu=>match u with| .ref f=>if f=q then (decide (a=i)&&decide (b=j)) else (decide (c=i)&&decide (d=j))|_=>false) pl (λf B=>?_) ⟨.bl _,H,g,rfl,?_⟩
   ·have L:f=.ref q\/f=.ref r:=by simpa using B
    rcases L with e|e
    ·subst e;show SeqAt.EqAt X.A.in1 s (.ref q) (.ref w) (if q=q then _ else _);rw[Vh rfl, <-Co];exact SeqAt.eqAt_reads _ _ _ _ _ _ _ _ O D (o a b) (o i j) C
    ·subst e;show SeqAt.EqAt X.A.in1 s (.ref r) (.ref w) (if r=q then _ else _);rw[Vg (λf=>z f.symm), <-Co];exact SeqAt.eqAt_reads _ _ _ _ _ _ _ _ rr D (o c d) (o i j) C
   ·have e:([Value.ref q,.ref r].toArray.any λu=>match u with| .ref f=>if f=q then (decide (a=i)&&decide (b=j)) else (decide (c=i)&&decide (d=j))|_=>false)=((decide (a=i)&&decide (b=j))||(decide (c=i)&&decide (d=j))):=by
     simp only[List.any_toArray,WW,List.any_nil,Bool.or_false,Vh rfl,Vg (λf:r=q=>z f.symm),WF]
    rw[e];exact k
def Na{g:Type}{r:Rl g}[Mo r]{G H:Hp}{Q:VK}{v:V}{xs:List g}{b:Nat}(h:RL r G v xs)(s:aB G H)(k:∀d c w,al H G d c->RL r c w (xs.take b)->Q w d):qk K v none (some (b:Int)) H Q:=by
 obtain⟨p,vs,rfl,h,q⟩:=h;refine⟨p,vs,rfl,aT.of (s _ _ h),λl f=>k _ _ _ (al.new s f) ?_⟩;have e:kl vs none (some (b:Int))=vs.take b:=by
  unfold kl;rw[HT.qm,HT.FU,Xe,Nat.sub_zero];rcases Nat.le_total vs.length b with a|a
  ·rw[Nat.min_eq_right a,VV (Vm _),VV a]
  ·rw[Xp a]
 rw[e];exact RL.new (s.free f) (Paired.take _ q)
def PF(T:Tx P K mg A):Fn P w K mg ah 41 "is_new_pair" ["parts","k"] (b6 (RL (dH K A)) RI RB (λaf k=>0<=k/\k<af.length/\af.length<=100) λaf k=>nr af k.toNat):=by
 refine T.LD.fn Ak b6.aC λf a5 a1 ba s H vs Q E aK h=>?_;obtain⟨G,N,aX,af,as,rfl,S,aj,aF,⟨a6,a7,a8⟩,k⟩:=h;refine⟨_,(au (bo 2 Ak.nd (px K ap ax))
   (au (a_ (bg cp (ay K aP) (ay K aP))
    (aw (aJ ic))
    bx)
   (au (dY VJ rfl (gY (K:=K) (qh (qx (K:=K)) ap Fa (lS ax))) (bU 3 Ak.nd)
    (aw (a_ ((nO (bg cp (ay K aZ) (aY T.lH)) (nP (vV (Qj (K:=K) aK.units) (dC (aV (ay K aZ) (ay K aZ))) (dC (aV (dC (aV (ay K aP) (ay K aP))) (dC (aV (ay K aP) (ay K aP))))) rfl)))).pt
    (aw (aJ ic))
    bx)))
   (aw (aJ ic))))),?_⟩
 try simp only[bn]
 refine br [some N,some aX,none,none] ?_;subst aF;obtain⟨g,rfl⟩:∃g:Nat,as=(g:Int):=⟨as.toNat,⋯⟩
 replace k:∀(l i:Hp)(v:V),al H G l i->RB i v (nr af g)->Q v l:=k
 exists bE g aj S rfl (getD_some (d:=ae) ⋯) λu ar=>?_;unfold nr at k;generalize af.getD g ae=p at ar k;walk_at "go";by_cases c:p.a=p.b
 ·refine bv c ?_;exists k _ _ _ (al.refl S) (by rw[Vx c];rfl)
 refine bf c ?_;rw[VF c] at k;exists Na aj S λa3 X bb ac aO=>?_;refine mz (r:=dH K A) (λj O l i=>al H G l i/\aB X i/\(((af.take g).take j).all λo=> !(decide (o.kind=3)&&j6 o p))=true/\∃F:b9,O=[some N,some (.int g),some u,F]) aO ac.sub ⟨ac,aB.refl _,by simp,none,rfl⟩ (λj O l i p=>⟨p.2.1,p.1.sub⟩) ?_ ?_
 ·rintro j o aW O l i ao a' ⟨e,ag,L,F,rfl⟩;have av:=e.sub;have aM:=e.up ar;have az:∀x B,al l i x B->(!(decide (o.kind=3)&&j6 o p))=true->∃W,al H G x W/\aB X W/\(((af.take g).take (j+1)).all λo=> !(decide (o.kind=3)&&j6 o p))=true/\∃F:b9,[some N,some (.int g),some u,some aW]=[some N,some (V.int g),some u,F]:=λx B t aG=>by
   refine⟨B,e.trans t,ag.trans t.gs,?_,_,rfl⟩;rw[VU,ao,Xs,L];show(true&&((!(decide (o.kind=3)&&j6 o p))&&true))=true;rw[aG];rfl
  walk_at "go";by_cases J:o.kind=3
  case neg=>refine bf J ?_;rw[Vg (by simp)];exists az _ _ (al.refl av) (by rw[VF J];rfl)
  refine bv J ?_;exists⟨dh,λD aL=>?_⟩;have C:=al.new (o:=.aN [.int o.a,.int o.b]) av aL;have ak:ai l D (.aN [.int o.a,.int o.b]) D=some (.aN [.int o.a,.int o.b]):=aS;generalize ai l D (.aN [.int o.a,.int o.b])=Y at C ak ⊢;generalize ai i D (.aN [.int o.a,.int o.b])=aA at C;have aT:=C.sub;have aQ:=C.up aM;exists⟨dh,λq aH=>?_⟩;have t:=al.new (o:=.aN [.int p.a,.int p.b]) aT aH;have R:ai Y q (.aN [.int p.a,.int p.b]) q=some (.aN [.int p.a,.int p.b]):=aS;generalize ai Y q (.aN [.int p.a,.int p.b])=x at t R ⊢;generalize ai aA q (.aN [.int p.a,.int p.b])=B at t;have aU:=t.sub;have a9:=t.up aQ;exists⟨dh,λr aq=>?_⟩;have y:=al.new (o:=.aN [.int p.b,.int p.a]) aU aq;have am:ai x r (.aN [.int p.b,.int p.a]) r=some (.aN [.int p.b,.int p.a]):=aS;have aI:q≠r:=dI R aq;generalize ai x r (.aN [.int p.b,.int p.a])=aa at y am ⊢;generalize ai B r (.aN [.int p.b,.int p.a])=aD at y;exists⟨dh,λI aR=>?_⟩;have z:=al.new (o:=.aN [.ref q,.ref r]) y.sub aR;have an:ai aa I (.aN [.ref q,.ref r]) I=some (.aN [.ref q,.ref r]):=aS;generalize ai aa I (.aN [.ref q,.ref r])=a4 at z an ⊢;generalize ai aD I (.aN [.ref q,.ref r])=a2 at z;have ad:=C.trans ((t.trans y).trans z);refine⟨I,q,r,D,o.a,o.b,p.a,p.b,p.b,p.a,rfl,bi.of (((t.trans y).trans z).hs _ _ ak),rfl,bi.of an,bi.of ((y.trans z).hs _ _ R),bi.of (z.hs _ _ am),aI,?_⟩;have aE:((decide (p.a=o.a)&&decide (p.b=o.b))||(decide (p.b=o.a)&&decide (p.a=o.b)))=j6 o p:=by unfold j6;have M:∀m n:Int,decide (m=n)=decide (n=m):=λm n=>Wr.mpr ⟨Eq.symm,Eq.symm⟩;rw[M p.a o.a,M p.b o.b,M p.b o.a,M p.a o.b]
  rw[aE];walk_at "go";cases ab:j6 o p with
  |true=>
   exists k _ _ _ (e.trans ad) ?_;have:((af.take g).all λo=> !(decide (o.kind=3)&&j6 o p))=false:=by rw[<-W7,VO];intro a0;have:=a0 o (Vf ao);rw[Vx J,ab] at this;cases this
   rw[this,Bool.and_false];rfl
  |false=>exists az _ _ ad (by rw[ab,Bool.and_false];rfl)
 ·rintro O l i ⟨e,ag,L,F,rfl⟩;rw[Wj] at L;exists k _ _ _ e ?_;rw[L];rfl
def P2(T:Tx P K mg A):Fn P w K mg ah 42 "refers_rightly" ["parts","k"] (b6 (RL (dH K A)) RI RB (λaf k=>0<=k/\k<af.length/\af.length<=100/\∀p∈af,0<=p.a/\0<=p.b/\0<=p.c) λaf k=>gM af k.toNat):=by
 have X:=EA w ah T;have t:=Py w ah T;have Y:=PF w ah T;refine T.L6.fn HI b6.aC λf aE as aI s H vs Q E m h=>?_;obtain⟨G,aq,ar,af,J,rfl,O,i,ab,⟨aF,aG,ac,ad⟩,k⟩:=h;refine⟨_,(au (bo 2 HI.nd (px K ap ax))
   (au (a_ (d8 (aL X m (a9 (ay K aP))))
    (aw (aJ (lj (ff mO (ay K aP) ax) (nH (ff jf (ay K (px K ap (ay K aP))) (aY T.lH))))))
    bx)
   (au (a_ (bg cp (ay K aP) (aY T.lH))
    (aw (aJ (lj (aL t m (bZ ap (ay K aP) ax)) (lj (aL t m (bZ ap (ay K aP) ax)) (nH (aL Y m (aV ap ax)))))))
    bx)
   (aw (aJ ic))))),?_⟩
 try simp only[bn]
 refine br [some aq,some ar,none] ?_;subst ab;obtain⟨e,rfl⟩:∃e:Nat,J=(e:Int):=⟨J.toNat,⋯⟩
 replace k:∀(x r:Hp)(v:V),al H G x r->RB r v (gM af e)->Q v x:=k
 have D:af[e]? =some (af.getD e ae):=getD_some ⋯;obtain⟨L,M,am⟩:=ad _ (Vf D);exists bE e i O rfl D λu F=>?_;unfold gM at k;generalize af.getD e ae=p at F k L M am;exists dG G O rfl trivial λaz R aK g ai=>?_;subst ai;have N:=g.sub;have ag:=g.up F;walk_at "go";cases y:gG p.kind with
 |true=>
  refine jV ?_;rw[Vh y] at k;walk_at "go";by_cases j:p.c<e
  ·refine bv j ?_;exists bE p.c.toNat (g.up i) N ⋯ (getD_some (d:=ae) ⋯) λao I=>?_;exists k _ _ _ g (by rw[Vx j];rfl)
  ·refine bf j ?_;exact k _ _ _ g (by rw[VF j];rfl)
 |false=>
  refine iP ?_;rw[Vg (by rw[y];decide)] at k;walk_at "go";by_cases l:p.kind=3
  ·refine bv l ?_;rw[Vh l] at k;exists gU R N (g.up i) rfl rfl ⟨L,⋯⟩ λaA S ao q I=>?_;subst I;have n:=g.trans q;have an:=q.sub;have aH:=q.up ag;walk_at "go";cases z:fN af p.a e with
   |false=>refine iP ?_;exact k _ _ _ n (by rw[z];rfl)
   |true=>
    refine jV ?_;rw[z] at k;exists gU S an (n.up i) rfl rfl ⟨M,⋯⟩ λaB W aM C aj=>?_;subst aj;have o:=n.trans C;walk_at "go";cases B:fN af p.b e with
    |false=>refine iP ?_;exact k _ _ _ o (by rw[B];rfl)
    |true=>refine jV ?_;rw[B] at k;exists bT W C.sub (o.up i) rfl ⟨⋯,⋯,ac⟩ λaD av aN aa ak=>k _ _ _ (o.trans aa) ak
  ·refine bf l ?_;rw[Vg l] at k;exists k _ _ _ g rfl
def JT(b x:Int):iy b x=max b x:=by unfold iy;split<;>lia
theorem CL:∀(l:ao)(b:Int),l.foldl iy b=l.foldl max b
 |[],_=>rfl
 |x::l,b=>by show l.foldl iy (iy b x)=l.foldl max (max b x);rw[JT,CL]
def Oy{l:ao}(h:∀x∈l,0<=x):oM 0 l=l.foldl max 0:=by
 cases l with
 |nil=>rfl
 |cons a l=>show l.foldl iy a=l.foldl max (max 0 a);have:=h a (VY ..);rw[CL,show max 0 a=a by lia]
def qZ(p:cJ):Prop:=(0<=p.a/\0<=p.b/\0<=p.c/\0<=p.d)/\FB 20 p.q
def OS{p:cJ}(h:qZ p):∀x∈eP p,0<=x:=by
 obtain⟨⟨b,c,d,e⟩,_⟩:=h;intro x a;unfold eP at a;split at a
 ·simp at a
 ·split at a
  ·simp at a;lia
  ·simp at a;lia
def Ri{af:bh}{k:Nat}(h:gM af k=true)(e:(af.getD k ae).kind=3):(af.getD k ae).a<k/\(af.getD k ae).b<k:=by unfold gM at h;rw[Vg (by rw[e];decide),Vh e] at h;simp only[Vt] at h;obtain⟨c,d,_⟩:=h;unfold fN at c d;simp only[Vt,Vp] at c d;exact⟨c.1,d.1⟩
def PX(T:Tx P K mg A):Fn P w K mg ah 43 "part_fault" ["nodes","parts","k"] (eG RI (RL (dH K A)) RI RI (λ_ af k=>0<=k/\k<af.length/\af.length<=100/\∀p∈af,qZ p) λn af k=>jz n af k.toNat):=by
 have aD:=PU w ah T;have aB:=PQ w ah T;have aE:=P2 w ah T;have aA:=qf w ah T;have L:=qg w ah T;refine T.LX.fn HG eG.aC λf be a6 bs s H vs Q E g h=>?_;obtain⟨G,a3,a4,a5,aj,af,ai,rfl,an,aG,C,aH,⟨bh,bi,aI,e⟩,k⟩:=h;refine⟨_,(au (bo 3 HG.nd (px K ax aP))
   (au (a_ (bg iT (QC (K:=K) (by rfl) T.JO (a9 (aL aD g (a9 aZ)))) ap)
    (aw (aJ (aY T.Kk)))
    bx)
   (au (a_ (jC (d8 (aL aB g (a9 aZ))))
    (aw (aJ (aY T.BI)))
    bx)
   (au (a_ (jC (d8 (aL aE g (aV ax aP))))
    (aw (aJ (aY T.Kl)))
    bx)
   (au (a_ ((nO (bg cp (ay K aZ) (aY T.lH)) (nP (d8 (aL aA g (aV (aL L g (aV (ay K aZ) (ay K aZ))) (aL L g (aV (ay K (px K ax (ay K aZ))) (ay K (px K ax (ay K aZ))))))))))).pt
    (aw (aJ (aY T.BI)))
    bx)
   (aw (aJ az))))))),?_⟩
 try simp only[bn]
 refine br [some a3,some a4,some a5,none] ?_;subst aG aH;obtain⟨d,rfl⟩:∃d:Nat,ai=(d:Int):=⟨ai.toNat,⋯⟩
 replace k:∀(M J:Hp)(v:V),al H G M J->RI J v (jz aj af d)->Q v M:=k
 have aa:af[d]? =some (af.getD d ae):=getD_some ⋯;have c:=e _ (Vf aa);have ad:=λa b=>Ri (af:=af) (k:=d) a b;exists bE d C an rfl aa λu t=>?_;have ab:=Oy (OS c);unfold jz at k;generalize af.getD d ae=p at t k c ab ad;exists dG G an t trivial λa8 ao bt j aK=>?_;obtain⟨q,us,rfl,ag,aR⟩:=aK;rw[nF aR] at ag;exists⟨q,eP p,rfl,aT.of (j.sub _ _ ag),?_⟩;rw[ab];walk_at "go";by_cases r:aj<(eP p).foldl max 0
 ·refine bv r ?_;exists k _ _ _ j (by rw[Vh r];rfl)
 refine bf r ?_;rw[Vg r] at k;exists dG ao j.sub (j.up t) trivial λa' aq bu S aM=>?_;subst aM;have z:=j.trans S;walk_at "go";cases N:lO p with
 |false=>exists k _ _ _ z (by rw[Vh N];rfl)
 |true=>
  refine iP ?_;rw[Vg (by rw[N];decide)] at k;exists bT aq S.sub (z.up C) rfl ⟨⋯,⋯,aI,λp c=>⟨(e p c).1.1,(e p c).1.2.1,(e p c).1.2.2.1⟩⟩ λba ar a2 W F=>?_
  replace F:a2=.bl (gM af d):=F
  subst F;have l:=z.trans W;have I:=W.sub;have D:=l.up t;have ac:=l.up C;walk_at "go";cases y:gM af d with
  |false=>exists k _ _ _ l (by rw[Vh y];rfl)
  |true=>
   refine iP ?_;rw[Vg (by rw[y];decide)] at k;walk_at "go";by_cases i:p.kind=3
   case neg=>refine bf i ?_;rw[Vg (by simp)];exists k _ _ _ l (by rw[Vg (λx=>i x.1)];rfl)
   refine bv i ?_;obtain⟨bk,bm⟩:=ad y i;have X:af[p.a.toNat]? =some (af.getD p.a.toNat ae):=getD_some ⋯;have Y:af[p.b.toNat]? =some (af.getD p.b.toNat ae):=getD_some ⋯;have ak:=(e _ (Vf X)).2;have am:=(e _ (Vf Y)).2;have bp:=c.1.1;have bq:=c.1.2.1;exists ja T D I λbB aS=>?_;exists ja T D I λbC aU=>?_;exists bT ar I aS aU ⟨c.2.sz,c.2.sz⟩ λbb as bw m aN=>?_;have o:=m.sub;have bj:=m.up D;exists bE p.a.toNat (m.up ac) o ⋯ X λbD aW=>?_;refine ja T aW o λbF aX=>?_;exists bE p.b.toNat (m.up ac) o ⋯ Y λbG a0=>?_;refine ja T a0 o λbH a1=>?_;exists bT as o aX a1 ⟨ak.sz,am.sz⟩ λbc av bz B aO=>?_;exists bT av B.sub (B.up aN) aO ⟨(c.2.bI c.2).sz,(ak.bI am).sz⟩ λbd a7 bA aF aQ=>?_;subst aQ;have R:=l.trans (m.trans (B.trans aF));walk_at "go";cases O:above (bI p.q p.q) (bI (af.getD p.a.toNat ae).q (af.getD p.b.toNat ae).q) with
   |true=>exists k _ _ _ R (by rw[Vh ⟨i,O⟩];rfl)
   |false=>exists k _ _ _ R (by rw[Vg (λx=>by rw[O] at x;exact absurd x.2 ∅)];rfl)
def Px(T:Tx P K mg A):Fn P w K mg ah 44 "fault_of" ["nodes","parts"] (b6 RI (RL (dH K A)) (RL RI) (λ_ af=>af.length<=100/\∀p∈af,qZ p) hZ):=by
 have z:=PX w ah T;refine T.Lv.fn Aj b6.aC λf O M S s H vs Q E F h=>?_;obtain⟨G,J,x,b,af,rfl,v,B,u,⟨C,D⟩,k⟩:=h
 refine⟨_,(au (dY VJ rfl (lR (by rfl) T.hR (a9 (eE K T.eu ax))) (bU 2 Aj.nd)
    (au (bo 3 Aj.nd (aL z F (bZ ap ax aP)))
   (aw (a_ (bg jf aZ az)
    (aw (aJ (dk (aV aP aZ))))
    bx))))
   (aw (aJ (dk j1)))),?_⟩
 try simp only[bn]
 refine br [some J,some x,none,none] ?_;subst B;exists eZ u v ?_;exists⟨(af.length:Int),rfl,⋯,⋯,?_⟩;rw[VE];refine mB (G:=G) (λj r i g=>al H G i g/\jr b af (af.length-j) j=hZ b af/\∃n o:b9,r=[some (.int b),some x,n,o]) ⟨al.refl v,rfl,none,none,rfl⟩ ?_ ?_
 ·rintro j r i g R ⟨e,a,n,o,rfl⟩;rw[show(0:Int)+(j:Int)=(j:Int) by lia];rw[show af.length-j=af.length-(j+1)+1 by lia] at a;unfold jr at a;exists gU g e.sub rfl (e.up u) rfl ⟨⋯,⋯,C,D⟩ λN y I l m=>?_
  replace m:I=.int (jz b af j):=m
  subst m;have t:=e.trans l;walk_at "go";by_cases c:jz b af j=0
  ·rw[Vg (lI c)];rw[Vg (λL=>L c)] at a;exists⟨y,t,a,_,_,rfl⟩
  ·rw[Vh (kW c)];rw[Vh c] at a;exists⟨dh,λq d=>k _ _ _ (t.trans (al.new l.sub d)) ?_⟩;rw[<-a];exact RL.new (l.sub.free d) (u0 _ [(j:Int),jz b af j])
 ·rintro r i g ⟨e,a,n,o,rfl⟩;rw[Nat.sub_self] at a;exists⟨We _,λq d=>k _ _ _ (e.trans (al.new e.sub d)) ?_⟩;rw[<-a];exact RL.new (e.sub.free d) .nil
theorem ue:∀n,(cj n).length=2^n
 |0=>rfl
 |n+1=>by show((cj n).map _++(cj n).map _).length=2^(n+1);rw[Vw,Vn,Vn,ue,Xf];lia
def CV{G H:Hp}{Q:VK}{c:Addr}{i:Int}{v:V}{a:ao}(s:aB G H)(g:G c=some (.aN [.int i]))(h:RS G v a)(n:a.length<=100)(k:∀f d u,al H G f d->RS d u (i::a)->Q u f):zH K (.ref c) v H Q:=by
 obtain⟨b,rfl,l⟩:=h;refine⟨c,b,[.int i],a.map V.int,rfl,rfl,bi.of (s _ _ g),bi.of (s _ _ l),(λm=>nomatch m),?_,λe=>?_,λ_ p j=>?_⟩
 ·have:([V.int i].length+(a.map V.int).length)<=1000:=by simp;lia
  exact WP (dB this)
 ·have e:a=[]:=by simpa using e
  subst e;exact k _ _ _ (al.refl s) ⟨c,rfl,g⟩
 ·exact k _ _ _ (al.new s j) (RS.new (xs:=i::a))
def Ey(T:Tx P K mg A):Fn P w K mg ah 41 "all_states" ["count"] (bW RI (RL (RS)) (λn=>0<=n/\n<=3) λn=>cj n.toNat):=by
 refine T.Lk.fn nR bW.aC λf aL aE aR s H vs Q E t h=>?_;obtain⟨G,aD,X,rfl,aA,ak,⟨aQ,aP⟩,k⟩:=h;refine⟨_,(au (bo 1 nR.nd (dk (a9 (dC j1))))
   (au (dY VJ rfl (lR (by rfl) T.hR (a9 ap)) (bU 2 nR.nd)
    (aw (bo 1 nR.nd (bF sH (j2 rfl nR.nd (gY (K:=K) ax) (hW (own:=[("row",3)]) (by show gC ["count","rows","k","row"] (aM wf) _ _=true;decide+kernel)) (λ_ _ _ _ _=>(bU 3 nR.nd)) (λ_ _ _ _ _=>iV) (λ_ _ _ _ _=>(bF (EO (K:=K)) (dC (a9 az)) aZ))) (j2 rfl nR.nd (gY (K:=K) ax) (hW (own:=[("row",3)]) (by show gC ["count","rows","k","row"] (aM wf) _ _=true;decide+kernel)) (λ_ _ _ _ _=>(bU 3 nR.nd)) (λ_ _ _ _ _=>iV) (λ_ _ _ _ _=>(bF (EO (K:=K)) (dC (a9 az)) aZ)))))))
   (aw (aJ ax)))),?_⟩
 try simp only[bn]
 refine br [some aD,none,none,none] ?_;subst ak;obtain⟨n,rfl⟩:∃n:Nat,X=(n:Int):=⟨X.toNat,⋯⟩
 replace k:∀(g b:Hp)(v:V),al H G g b->RL (RS) b v (cj n)->Q v g:=k
 have S:∀j,∀r∈cj j,r.length=j:=by
  intro j;induction j with
  |zero=>intro r t;have:r=[]:=by simpa[cj] using t
         subst this;rfl
  |succ j W=>
   intro r t;rcases VQ.mp t with q|q
   ·obtain⟨x,d,rfl⟩:=Vz.mp q;simp[W x d]
   ·obtain⟨x,d,rfl⟩:=Vz.mp q;simp[W x d]
 have am:∀j,j<=3->(cj j).length<=8:=λj M=>by rw[ue];exact VW (n:=2) ∅ M
 exists⟨We _,λp an=>?_⟩;have i:=al.new (o:=.aN []) aA an;have Y:RS (ai G p (.aN [])) (.ref p) []:=RS.new (xs:=[]);generalize ai H p (.aN [])=ae at i ⊢;generalize ai G p (.aN [])=L at i Y;exists⟨by show 1<=sizeLine;decide,λl N=>?_⟩;have z:=al.new (o:=.aq [.ref p]) i.sub N;have aa:RL (RS) (ai L l (.aq [.ref p])) (.ref l) (cj 0):=RL.new (i.sub.free N) (.cons Y .nil);generalize ai ae l (.aq [.ref p])=aH at z ⊢;generalize ai L l (.aq [.ref p])=ab at z aa;exists⟨(n:Int),rfl,⋯,⋯,?_⟩;rw[VE];refine mB (G:=ab) (λj J g b=>al H G g b/\∃(v:V)(F I:b9),RL (RS) b v (cj j)/\J=[some (.int n),some v,F,I]) ⟨i.trans z,_,none,none,aa,rfl⟩ ?_ ?_
 ·rintro j J g b M ⟨e,v,F,I,y,rfl⟩;have aO:=am j ⋯;exists pX (r:=RS) (rr:=RS) (λr=>0::r) y e.sub (dB ⋯) (λ_=>rfl) ?_ ?_
  ·intro af ac u x R m d D C;exists⟨by show 1<=sizeLine;decide,λaB B=>?_⟩;have a:=al.new (o:=.aN [.int 0]) m.sub B;exists CV a.sub aS (a.up D) (by rw[S j x d];lia) λaI aF aT c ao=>C _ _ _ (a.trans c) ao
  intro af ac aV m av;exists pX (r:=RS) (rr:=RS) (λr=>1::r) (m.up y) m.sub (dB ⋯) (λ_=>rfl) ?_ ?_
  ·intro ag ad u x R a d D C;exists⟨by show 1<=sizeLine;decide,λaB B=>?_⟩;have c:=al.new (o:=.aN [.int 1]) a.sub B;exists CV c.sub aS (c.up D) (by rw[S j x d];lia) λaK aG aU aj ar=>C _ _ _ (c.trans aj) ar
  intro ag ad aW a ay;refine r8 (a.up av) ay a.sub (by rw[Vn,Vn];exact WP (dB ⋯)) λq us O as=>?_;have c:=al.new (o:=.aq us) a.sub O;exists⟨_,e.trans ((m.trans a).trans c),_,_,_,RL.new (a.sub.free O) as,rfl⟩
 ·rintro J g b ⟨e,v,F,I,y,rfl⟩;exists k _ _ _ e y
def EH(T:Tx P K mg A):Fn P w K mg ah 41 "node_voltage" ["found","node"] (b6 (RL (RF K)) RI (RF K) (λf n=>0<=n/\n<=f.length) jw):=by
 refine T.LS.fn Se b6.aC λf m l t s H vs Q E r h=>?_;obtain⟨G,i,j,o,n,rfl,a,b,e,⟨q,p⟩,k⟩:=h;refine⟨_,(aw (aJ (sM (bg cp ax az) (aY T.mn) (px K ap (bF jg ax az))))),?_⟩
 try simp only[bn]
 refine br [some i,some j] ?_;subst e;walk_at "go";by_cases c:n=0
 ·refine bv c ?_;exists k _ _ _ (al.refl a) ?_;unfold jw;rw[Vh c];exact T.mF G
 ·refine bf c ?_;exists bE (n-1).toNat b a (by omega) (getD_some (d:=am) (by omega)) λu g=>k _ _ _ (al.refl a) ?_;unfold jw;rw[Vg c];exact g
inductive nV{β:Type}(K:Frag)(args:Hp->List V->β->Prop)(pre:List Fr->β->Prop)(g:List Fr->β->List Fr)(vs:List V)(H:Hp)(Q:VK)(E:XK):Prop
 |mk (G l ys row us b) (_:vs=.ref l::us) (_:aB G H) (_:G l=none) (_:H l=some (.aq ys)) (_:Paired (RF K G) ys row) (_:args G us b) (_:pre row b) (_:∀Z G' ys',bG l H G Z G'->Z l=some (.aq ys')->G' l=none->Paired (RF K G') ys' (g row b)->Q .aO Z):nV K args pre g vs H Q E
def t9(K:Frag):Hp->aQ->Int×Fr->Prop:=λG us b=>∃v,us=[.int b.1,v]/\RF K G v b.2
def vQ(a:aG)(b:Int×Fr):Prop:=0<=b.1/\b.1<a.length/\cV (a.getD b.1.toNat am)/\cV b.2
def sE(T:Tx P K mg A):Fn P w K mg ah 42 "add" ["row","spot","amount"] (nV K (t9 K) vQ λd b=>cW d b.1 b.2):=by
 have z:=zh w ah T;refine T.Lf.fn RW (by rintro vs H Q E ⟨_,_,_,_,_,_,rfl,_,_,_,_,⟨_,rfl,_⟩,_⟩;rfl) λf X S aa s H vs Q E D h=>?_;obtain⟨G,l,ys,d,_,⟨a,x⟩,rfl,N,C,e,g,⟨R,rfl,r⟩,⟨F,I,n,o⟩,k⟩:=h
 try dsimp only at r F I n o k
 obtain⟨O,j⟩:∃v,v=V.ref l:=⟨_,rfl⟩
 obtain⟨t,m⟩:∃v,v=V.int a:=⟨_,rfl⟩
 rw[<-j,show V.int (a,x).1=t from m.symm];refine⟨_,(aw (nN (aL z D (aV (px K ap ax) aP)) (nI ap ax nT (λ_=>rfl)))),?_⟩
 try simp only[bn]
 refine br [some O,some t,some R] ?_;subst j m;have B:d[a.toNat]? =some (d.getD a.toNat am):=getD_some ⋯;obtain⟨u,J,M⟩:=Paired.get g B;have Y:=VP g;exists kz a.toNat e ⋯ J ?_;exists bT G N M r ⟨n,o⟩ λW y ab c L=>?_;have q:=c.hs _ _ e;have p:y l=none:=c.fr l C (by rw[e];exact λi=>nomatch i);exists nq a.toNat q ⋯ ⋯ ?_;refine k _ _ _ ((c.x (x:=l)).iW q p) aS p ?_;exact Paired.set L _ (Paired.imp (λ_ _ i=>Mo.mo c.gs i) g)
def dJ(b:Nat)(a:aG):Prop:=∀x∈a,FB b x
def FB.neg{b:Nat}{x:Fr}(h:FB b x):FB b (cf x):=⟨intBits_neg_le h.1,h.2⟩
def FB.one:FB 20 bO:=⟨by unfold Bt;decide,by unfold Bt;decide⟩
def dJ.aF{a b:Nat}{c:aG}(h:dJ a c)(d:a<=b:=by decide):dJ b c:=λx e=>(h x e).aF d
def dJ.at{b:Nat}{a:aG}(h:dJ b a){i:Nat}(c:i<a.length):FB b (a.getD i am):=h _ (eD c)
def dJ.cW{a c:Nat}{b:aG}{e:Int}{x:Fr}(h:dJ a b)(g:FB c x)(f:e.toNat<b.length):dJ (a+c+1) (cW b e x):=by
 intro y d;unfold Nt.cW at d;rcases V7 d with q|q
 ·exact(h y q).aF ⋯
 ·rw[q];exact(h.at f).plus g
def jn(a:aG)(b:Int)(x:Fr):(cW a b x).length=a.length:=by unfold cW;rw[WD]
def Jz(K:Frag):Hp->aQ->Int×Int×Fr->Prop:=λG us b=>∃v,us=[.int b.1,.int b.2.1,v]/\RF K G v b.2.2
def QX(a:aG)(b:Int×Int×Fr):Prop:=0<=b.1/\b.1<=a.length/\0<=b.2.1/\b.2.1<=a.length/\dJ 2000 a/\FB 200 b.2.2
def Ex(T:Tx P K mg A):Fn P w K mg ah 43 "add_voltage" ["row","a","b","amount"] (nV K (Jz K) QX λd b=>iw d b.1 b.2.1 b.2.2):=by
 have J:=sE w ah T;have ae:=vM w ah T;refine T.Lj.fn RY (by rintro vs H Q E ⟨_,_,_,_,_,_,rfl,_,_,_,_,⟨_,rfl,_⟩,_⟩;rfl) λf aI aE aK s H vs Q E B h=>?_;obtain⟨G,l,ys,d,_,⟨a,b,x⟩,rfl,Y,O,S,X,⟨F,rfl,D⟩,⟨am,an,ao,ar,C,z⟩,k⟩:=h
 try dsimp only at D am an ao ar z k
 obtain⟨aC,L⟩:∃v,v=V.ref l:=⟨_,rfl⟩
 obtain⟨ab,M⟩:∃v,v=V.int a:=⟨_,rfl⟩
 obtain⟨ac,N⟩:∃v,v=V.int b:=⟨_,rfl⟩
 rw[<-L,show V.int (a,b,x).1=ab from M.symm,show V.int (a,b,x).2.1=ac from N.symm];refine⟨_,(au (a_ (bg jf ax az)
    (aw (dU (aL J B (bZ ap (bF jg ax az) aZ))))
    bx)
   (aw (a_ (bg jf aP az)
    (aw (dU (aL J B (bZ ap (bF jg aP az) (aL ae B (a9 aZ))))))
    bx))),?_⟩
 try simp only[bn]
 refine br [some aC,some ab,some ac,some F] ?_;subst L M N;have aa:∀(m g:Hp)(n:aQ)(e:aG),bG l H G m g->m l=some (.aq n)->g l=none->Paired (RF K g) n e->e.length=d.length->dJ 3000 e->
   ((b=0->e=iw d a b x)/\(b≠0->cW e (b-1) (cf x)=iw d a b x))->
   tz (ph (gu mQ (cQ 2) (tC (.int 0)))) (qF (lX (nV K (t9 K) vQ λd b=>cW d b.1 b.2) [] E0 (dD (cQ 0) (dD (gu (lu λi j=>.int (i-j)) (cQ 2) (tC (.int 1))) (dD (lX (bW (RF K) (RF K) (λ_=>True) cf) [] E0 (dD (cQ 3) eU)) eU))))) qG
    {nx:=λx af=>Q V.aO af,rt:=Q} [some (.ref l),some (.int a),some (.int b),some F] m:=by
  intro m g n e p q u y aJ ay R;walk_at "go";by_cases c:b=0
  ·rw[Vg (lI c)];exists k m g n p q u ?_;rw[<-R.1 c];exact y
  ·rw[Vh (kW c)];exists dG g p.sub (p.up D) trivial λaH I aB r aA=>?_;have W:=r.hs _ _ q;have aj:I l=none:=r.fr l u (by rw[q];exact λt=>nomatch t);exists⟨I,l,n,e,_,(b-1,cf x),rfl,r.sub,aj,W,Paired.imp (λ_ _ t=>Mo.mo r.gs t) y,⟨aB,rfl,aA⟩,⟨by show 0<=b-1;lia,by show b-1<(e.length:Int);lia,(ay.at (by show(b-1).toNat<e.length;lia)).sz,(FB.neg z).sz⟩,λag ad aD ai as ak av=>?_⟩;refine k ag ad aD ((p.then q r).trans ai (by rw[W];exact λt=>nomatch t)) as ak ?_;rw[<-R.2 c];exact av
 walk_at "go";by_cases o:a=0
 ·rw[Vg (lI o)];refine aa H G ys d (al.refl Y).x S O X rfl (C.aF) ⟨λc=>?_,λc=>?_⟩
  ·unfold iw;rw[Vh c,Vh o]
  ·unfold iw;rw[Vg c,Vh o]
 ·rw[Vh (kW o)];exists⟨G,l,ys,d,_,(a-1,x),rfl,Y,O,S,X,⟨F,rfl,D⟩,⟨by show 0<=a-1;lia,by show a-1<(d.length:Int);lia,(C.at (by show(a-1).toNat<d.length;lia)).sz,z.sz⟩,λm g n p q u y=>?_⟩;refine aa m g n _ p q u y (jn _ _ _) ((C.cW z (by show(a-1).toNat<d.length;lia)).aF) ⟨λc=>?_,λc=>?_⟩
  ·unfold iw;rw[Vh c,Vg o]
  ·unfold iw;rw[Vg c,Vg o]
theorem uX:∀{b:ao}{k:Int},k∈b->b[b.idxOf k]? =some k/\∀m c,m<b.idxOf k->b[m]? =some c->c≠k
 |[],_,h=>by simp at h
 |a::b,k,h=>by
  by_cases e:a=k
  ·subst e;refine⟨by simp,λm c d=>?_⟩;simp at d
  ·have n:k∈b:=by
    rcases Vo.mp h with q|q
    ·exact absurd q.symm e
    ·exact q
   obtain⟨i,j⟩:=uX n;have g:(a::b).idxOf k=b.idxOf k+1:=by have l:(a==k)=false:=W8.mpr e;simp[List.idxOf_cons,l]
   rw[g];refine⟨by simpa using i,λm c d f=>?_⟩;cases m with
   |zero=>
    have:a=c:=by simpa using f
    rw[<-this];exact e
   |succ m=>exact j m c ⋯ (by simpa using f)
def Pz(T:Tx P K mg A):Fn P w K mg ah 41 "is_cut" ["network","k","states"] (eG (dE K A) RI (RT K RI) RB (λn k e=>0<=k/\k<n.af.length/\((n.af.getD k.toNat ae).kind=13->k∈n.diodes)/\e.length=n.diodes.length) λn k e=>kC n k.toNat e):=by
 refine T.LB.fn Hv eG.aC λf aj ai aq s H vs Q E an h=>?_;obtain⟨G,ac,ad,ag,n,D,e,rfl,b,t,L,M,⟨ak,am,j,R⟩,k⟩:=h;refine⟨_,(au (bo 3 Hv.nd (px K (ay K ap) ax))
   (au (a_ (bg cp (ay K aZ) (aY T.pP))
    (aw (aJ (ff cp (px K aP (sK (K:=K) Xa PySem.F.slot_list_index PySem.F.type_list_index (DT (K:=K)) (ay K ap) (a9 ax))) az)))
    bx)
   (aw (aJ (lj (ff cp (ay K aZ) (aY T.BH)) (nH (ff cp (px K (ay K aZ) az) az))))))),?_⟩
 try simp only[bn]
 refine br [some ac,some ad,some ag,none] ?_;subst L;obtain⟨a,rfl⟩:∃a:Nat,D=(a:Int):=⟨D.toNat,⋯⟩
 replace k:∀(r o:Hp)(v:V),al H G r o->RB o v (kC n a e)->Q v r:=k
 replace j:(n.af.getD a ae).kind=13->(a:Int)∈n.diodes:=j
 have J:n.af[a]? =some (n.af.getD a ae):=getD_some ⋯;exists jT T t b λas Y=>?_;exists bE a Y b rfl J λu B=>?_;unfold kC at k;generalize n.af.getD a ae=p at B k j;walk_at "go";by_cases c:p.kind=13
 ·refine bv c ?_;rw[Vh c] at k;obtain⟨C,ab⟩:=uX (j c);exists pU T t b λav aa=>?_;obtain⟨q,us,rfl,x,W⟩:=aa;rw[nF W] at x;have z:=b _ _ x;refine jW z ?_;exists⟨q,n.diodes.map V.int,.int a,n.diodes.idxOf (a:Int),.int a,rfl,rfl,aT.of z,rfl,?_,?_,?_,?_,?_⟩
  ·rw[VO];intro v X;obtain⟨I,_,rfl⟩:=Vz.mp X;rfl
  ·rw[Vq,C];rfl
  ·show((a:Int)==(a:Int))=true;simp
  ·intro m I O g;rw[Vq] at g;cases l:n.diodes[m]? with
   |none=>rw[l] at g;cases g
   |some y=>rw[l] at g;have:V.int y=I:=Vr g;subst this;have:=ab m y O l;show(y==(a:Int))=false;simpa using this
  ·have N:n.diodes.idxOf (a:Int)<e.length:=by rw[R];exact(Vj.mp C).1
   refine CQ (n.diodes.idxOf (a:Int)) M b rfl (getD_some (d:=0) N) λar S=>?_;subst S;exists k _ _ _ (al.refl b) rfl
 ·refine bf c ?_;rw[Vg c] at k;walk_at "go";by_cases i:p.kind=12
  ·refine bv i ?_;exists ja T B b λaA ao=>?_;exists k _ _ _ (al.refl b) (by rw[Vx i];rfl)
  ·refine bf i ?_;exact k _ _ _ (al.refl b) (by rw[VF i];rfl)
structure im(n:bB):Prop where
 aC:n.af.length<=10
 nodes:1<=n.nodes/\n.nodes<=8
 sz:n.nodes<=n.size/\n.size<=100
 o_:n.aW.length=n.af.length
 pf:∀k,k<n.af.length->(n.af.getD k ae).kind≠3->n.nodes<=n.aW.getD k 0/\n.aW.getD k 0<n.size
 b6:∀k,k<n.af.length->(n.af.getD k ae).kind=10->n.aW.getD k 0+1<n.size
 AB:∀k,k<n.af.length->n.aW.getD k 0=fw n.nodes (n.af.take k)
 Vb:n.size=fw n.nodes n.af
 Od:n.eO.length=n.af.length
 Oe:∀l∈n.eO,l.length<=11/\∀x∈l,0<=x.1/\x.1<n.af.length/\FB 20 x.2/\(n.af.getD x.1.toNat ae).kind=2
 dl:n.diodes.length<=3
 Mu:∀k:Nat,k<n.af.length->(n.af.getD k ae).kind=13->(k:Int)∈n.diodes
 My:∀d∈n.diodes,0<=d/\d<n.af.length/\(n.af.getD d.toNat ae).kind=13
 zw:∀p∈n.af,qZ p/\0<p.q.2/\(p.kind≠3->p.a<=n.nodes/\p.b<=n.nodes)/\(iQ p.kind=true->p.c<=n.nodes/\p.d<=n.nodes)/\
  (gG p.kind=true->p.c<n.af.length/\(n.af.getD p.c.toNat ae).kind≠3)
def Jx(K:Frag)(A:bV):Hp->aQ->bB×Nat×ao->Prop:=λG us b=>∃a c,us=[a,.int b.2.1,c]/\dE K A G a b.1/\RT K RI G c b.2.2
def QW(a:aG)(b:bB×Nat×ao):Prop:=im b.1/\(a.length:Int)=b.1.size/\dJ 1000 a/\b.2.1<b.1.af.length/\(b.1.af.getD b.2.1 ae).kind≠3/\b.2.2.length=b.1.diodes.length
def Pp(T:Tx P K mg A):Fn P w K mg ah 44 "add_told_side" ["row","network","k","states"] (nV K (Jx K A) QW λi b=>jk i b.1 b.2.1 b.2.2):=by
 have aC:=sE w ah T;have aD:=Ex w ah T;have aG:=P_ w ah T;have aE:=Pz w ah T;refine T.Li.fn Hu (by rintro vs H Q E ⟨_,_,_,_,_,_,rfl,_,_,_,_,⟨_,_,rfl,_⟩,_⟩;rfl) λf a4 a3 ba s H vs Q E I h=>?_;obtain⟨G,l,ys,i,_,⟨n,d,C⟩,rfl,J,R,t,Y,⟨az,aB,rfl,D,aq⟩,⟨N,aQ,ar,r,F,as⟩,k⟩:=h
 try dsimp only at D aq N aQ r F as k
 obtain⟨a2,am⟩:∃v,v=V.ref l:=⟨_,rfl⟩
 obtain⟨aA,an⟩:∃v,v=V.int (d:Int):=⟨_,rfl⟩
 rw[<-am,show V.int (((n,d,C):bB×Nat×ao).2.1:Int)=aA from an.symm];refine⟨_,(au (bo 4 Hu.nd (px K (ay K ax) aP))
   (au (a_ (bg cp (ay K bP) (aY T.uv))
    (aw Ra)
    bx)
   (aw (a_ ((j5 (d8 (aL aG I (a9 (ay K bP)))) (lT (d8 (aL aE I (bZ ax aP aZ)))))).pt
    (aw (dU (aL aC I (bZ ap (px K (ay K ax) aP) (aY T.pQ)))))
    (aw (dU (aL aD I (f9 ap (bZ (ay K bP) (ay K bP) (aY T.pQ)))))))))),?_⟩
 try simp only[bn]
 refine br [some a2,some az,some aA,some aB,none] ?_;subst am an;have ak:n.af[d]? =some (n.af.getD d ae):=getD_some r;have aJ:n.aW[d]? =some (n.aW.getD d 0):=getD_some (by rw[N.o_];exact r);obtain⟨aa,aR,z,_⟩:=N.zw _ (Vf ak);obtain⟨bW,b6⟩:=N.pf d r F;obtain⟨aX,a0⟩:=z F;have aN:=N.Mu d r;have a5:=N.nodes;have a7:=N.sz;exists jT T D J λbd aU=>?_;exists bE d aU J rfl ak λu av=>?_;have a':∀b:Bool,kC n d C=b->True:=λ_ _=>trivial;unfold jk at k;generalize a6:n.af.getD d ae=p at av k aa aR F aX a0;walk_at "go";by_cases c:p.kind=11
 ·refine bv c ?_;exists k H G ys (al.refl J).x t R ?_;rw[Vh c];exact Y
 refine bf c ?_;rw[Vg c] at k;exists dG G J rfl trivial λaI ad bb q aS=>?_;subst aS;have ag:∀(o g:Hp),al H G o g->(pj p.kind=true\/kC n d C=true)->
   qF (lX (nV K (t9 K) vQ λi b=>cW i b.1 b.2) [] E0 (dD (cQ 0) (dD (gu (iC K) (wL K (cQ 1) "spots") (cQ 2)) (dD (tC (.ref A.ou)) eU))))
    {nx:=λx aH=>Q V.aO aH,rt:=Q} [some (.ref l),some az,some (.int (d:Int)),some aB,some u] o:=by
  intro o g j aM;have B:=j.sub;have aK:=j.up D;have y:=j.hs _ _ t;have S:g l=none:=j.fr l R (by rw[t];exact λe=>nomatch e);exists mv T aK B λbe aV=>?_;exists bE d aV B rfl aJ λbc aT=>?_;subst aT;exists⟨g,l,ys,i,_,(n.aW.getD d 0,bO),rfl,B,S,y,Paired.imp (λ_ _ e=>Mo.mo j.gs e) Y,⟨_,rfl,T.pZ g⟩,⟨by show 0<=n.aW.getD d 0;lia,by show n.aW.getD d 0<(i.length:Int);lia,(ar.at (by show(n.aW.getD d 0).toNat<i.length;lia)).sz,FB.one.sz⟩,λM L ac O X W z=>?_⟩;refine k M L ac ((j.x (x:=l)).trans O (by rw[y];exact λe=>nomatch e)) X W ?_;rw[Vh aM];exact z
 walk_at "go";cases ai:pj p.kind with
 |true=>refine jV ?_;refine jV ?_;exact ag aI ad q (Or.inl ai)
 |false=>
  exists gU ad q.sub (q.up D) rfl (q.up aq) ⟨⋯,⋯,λe=>aN e,as⟩ λo g a1 j ab=>?_
  replace ab:a1=.bl (kC n d C):=ab
  subst ab;have m:=q.trans j;walk_at "go";cases aj:kC n d C with
  |true=>refine jV ?_;exact ag o g m (Or.inr aj)
  |false=>refine iP ?_;have B:=m.sub;have a8:=m.up av;have y:=m.hs _ _ t;have S:g l=none:=m.fr l R (by rw[t];exact λe=>nomatch e);exists⟨g,l,ys,i,_,(p.a,p.b,bO),rfl,B,S,y,Paired.imp (λ_ _ e=>Mo.mo m.gs e) Y,⟨_,rfl,T.pZ g⟩,⟨aa.1.1,by show p.a<=(i.length:Int);lia,aa.1.2.1,by show p.b<=(i.length:Int);lia,ar.aF,FB.one.aF⟩,λM L ac O X W z=>?_⟩;refine k M L ac ((m.x (x:=l)).trans O (by rw[y];exact λe=>nomatch e)) X W ?_;rw[Vg (by rw[ai,aj];simp)];exact z
def CT{c:L2.St}{H G:Hp}{g:iI}{v:V}{xs:List (Int×Fr)}{a b:Nat}{B:TS}(f:Nat->L2.St->Hp->Hp->Prop)(h:RL (io K) G v xs)(s:aB G H)(F:f 0 c H G)(m:∀j c e d,f j c e d->aB G d/\aB d e)
  (M:∀j x k c e d,xs[j]? =some x->RF K d k x.2->f j c e d->dA a (.int x.1) c e λS C=>dA b k S C (B {g with nx:=λt i=>∃l,f (j+1) t i l,ct:=λt i=>∃l,f (j+1) t i l,bk:=g.nx}))
  (I:∀c e d,f xs.length c e d->g.nx c e):∃q,v=.ref q/\(∃xs,aT K H q xs)/\mV (oi K q) (pW K 2 (my (dA a) (my (dA b) rZ))) B g c H:=by
 obtain⟨q,us,rfl,z,A⟩:=h;have J:us.length=xs.length:=VP A;have o:∀{j c e d},f j c e d->aT K e q us:=λp=>aT.of ((m _ _ _ _ p).2 _ _ ((m _ _ _ _ p).1 _ _ z));refine⟨q,rfl,⟨us,aT.of (s _ _ z)⟩,oF (n:=xs.length) f F ?_ ?_ ?_ I⟩
 ·intro j c e d w p;exact⟨us,us[j],o p,by simp[J,w]⟩
 ·intro c e d p;exact⟨us,o p,by omega⟩
 ·rintro j u c e d i w p ⟨rfl,y⟩;have N:=y us (o p);obtain⟨x,O,Q⟩:=Paired.jb A N;obtain⟨D,E⟩:=m _ _ _ _ p;obtain⟨R,k,rfl,P,L⟩:=Mo.mo (r:=io K) D Q;exact⟨R,_,rfl,bi.aF E P,rfl,_,_,rfl,_,_,rfl,rfl,M j x k c _ d O L p⟩
def Jw(K:Frag)(A:bV):Hp->aQ->bB×Nat×Fr->Prop:=λG us b=>∃a c,us=[a,.int b.2.1,c]/\dE K A G a b.1/\RF K G c b.2.2
def QV(a:aG)(b:bB×Nat×Fr):Prop:=im b.1/\(a.length:Int)=b.1.size/\dJ 1200 a/\b.2.1<b.1.af.length/\(b.1.af.getD b.2.1 ae).kind≠3/\FB 30 b.2.2
def xA{n:bB}{aj:Fr}{a:aG}{l:List (Int×Fr)}{j:Nat}{x:Int×Fr}(h:l[j]? =some x):jO n aj a (l.take (j+1))=cW (jO n aj a (l.take j)) (n.aW.getD x.1.toNat 0) (cf (bI aj x.2)):=by unfold jO;rw[VU,h,Wl];rfl
def Po(T:Tx P K mg A):Fn P w K mg ah 44 "add_telling_side" ["row","network","k","pace"] (nV K (Jw K A) QV λe b=>lY e b.1 b.2.1 b.2.2):=by
 have aQ:=sE w ah T;have aR:=Ex w ah T;have bh:=vM w ah T;have bi:=qg w ah T;have b7:=EB w ah T;have b5:=EA w ah T;refine T.Lh.fn sU (by rintro vs H Q E ⟨_,_,_,_,_,_,rfl,_,_,_,_,⟨_,_,rfl,_⟩,_⟩;rfl) λf cQ cM cZ s H vs Q E t h=>?_;obtain⟨G,l,ys,e,_,⟨n,m,aj⟩,rfl,aM,ca,bF,ck,⟨bb,bc,rfl,a2,bA⟩,⟨N,cj,Y,ai,aH,al⟩,k⟩:=h
 try dsimp only at a2 bA N cj ai aH al k
 obtain⟨cI,bu⟩:∃v,v=V.ref l:=⟨_,rfl⟩
 obtain⟨bV,bw⟩:∃v,v=V.int (m:Int):=⟨_,rfl⟩
 rw[<-bu,show V.int (((n,m,aj):bB×Nat×Fr).2.1:Int)=bV from bw.symm];refine⟨_,(au (bo 4 sU.nd (px K (ay K ax) aP))
   (au (bo 5 sU.nd (aL bh t (a9 (ay K bP))))
   (aw (a_ (bg cp (ay K bP) (aY T.uv))
    (aw (dU (aL aR t (f9 ap (bZ (ay K bP) (ay K bP) (aY T.pQ))))))
    (aw (a_ (d8 (aL b7 t (a9 (ay K bP))))
    (aw (dU (aL aR t (f9 ap (bZ (ay K bP) (ay K bP) da)))))
    (aw (a_ (bg cp (ay K bP) (aY T.BG))
    (aw (dU (aL aQ t (bZ ap (px K (ay K ax) aP) da))))
    (aw (a_ (bg cp (ay K bP) (aY T.pN))
    (aw (dU (aL aR t (f9 ap (bZ (ay K bP) (ay K bP) (aL bi t (aV aZ da)))))))
    (aw (a_ (bg cp (ay K bP) (aY T.pO))
    (aw (dY VJ rfl (gY (K:=K) (px K (ay K ax) aP)) (lp (K:=K) (n:=2) rfl (f_ (bU 6 sU.nd) (f_ (bU 7 sU.nd) lq)))
    (aw (dU (aL aQ t (bZ ap (px K (ay K ax) eF) (aL bh t (a9 (aL bi t (aV aZ gZ))))))))))
    (aw (a_ (d8 (aL b5 t (a9 (ay K bP))))
    (aw (dU (aL aQ t (bZ ap (px K (ay K ax) (ay K bP)) da))))
    bx)))))))))))))),?_⟩
 try simp only[bn]
 refine br [some cI,some bb,some bV,some bc,none,none,none,none] ?_;subst bu bw;have bs:n.af[m]? =some (n.af.getD m ae):=getD_some ai;have b_:n.aW[m]? =some (n.aW.getD m 0):=getD_some (by rw[N.o_];exact ai);obtain⟨I,cl,R,S,bJ⟩:=N.zw _ (Vf bs);obtain⟨bW,b6⟩:=N.pf m ai aH;obtain⟨cC,cD⟩:=R aH;have cU:=N.nodes;have cX:=N.sz;have bt:n.eO[m]? =some (n.eO.getD m []):=getD_some (by rw[N.Od];exact ai);obtain⟨cy,bN⟩:=N.Oe _ (Vf bt);exists jT T a2 aM λbX cv=>?_;exists bE m cv aM rfl bs λu a6=>?_;unfold lY at k;generalize cV:n.af.getD m ae=p at a6 k I cl aH cC cD S bJ;exists ja T a6 aM λbY cw=>?_;exists dG G aM cw trivial λbj W cG D co=>?_;have bS:=D.sub;have cn:=D.up a6;have cd:=D.up a2;have cg:=D.up bA;have a3:=D.hs _ _ bF;have bz:W l=none:=D.fr l ca (by rw[bF];exact λg=>nomatch g);have bK:Paired (RF K W) ys e:=Paired.imp (λ_ _ g=>Mo.mo D.gs g) ck;have ab:FB 20 (cf p.q):=I.2.neg;have cJ:bG l H G bj W:=D.x;have bQ:bj l≠none:=by rw[a3];exact λg=>nomatch g
 walk_at "go";by_cases ac:p.kind=11
 ·refine bv ac ?_;rw[Vh ac] at k;obtain⟨bR,cE⟩:=S (by rw[ac];rfl);exists⟨W,l,ys,e,_,(p.c,p.d,bO),rfl,bS,bz,a3,bK,⟨_,rfl,T.pZ W⟩,⟨I.1.2.2.1,by show p.c<=(e.length:Int);lia,I.1.2.2.2,by show p.d<=(e.length:Int);lia,Y.aF,FB.one.aF⟩,λC o av i r B R=>?_⟩;exact k C o av (cJ.trans i bQ) r B R
 refine bf ac ?_;rw[Vg ac] at k;exists dG W bS rfl trivial λbk L c1 F cq=>?_;subst cq;have J:=F.sub;have cr:=F.up cn;have aG:=F.up cd;have bC:=F.up cg;have aJ:=F.up co;have M:=F.hs _ _ a3;have ag:L l=none:=F.fr l bz bQ;have am:Paired (RF K L) ys e:=Paired.imp (λ_ _ g=>Mo.mo F.gs g) bK;have as:bG l H G bk L:=(D.trans F).x;have aK:bk l≠none:=by rw[M];exact λg=>nomatch g
 walk_at "go";cases aT:iQ p.kind with
 |true=>refine jV ?_;rw[Vh aT] at k;obtain⟨bR,cE⟩:=S aT;exists⟨L,l,ys,e,_,(p.c,p.d,cf p.q),rfl,J,ag,M,am,⟨_,rfl,aJ⟩,⟨I.1.2.2.1,by show p.c<=(e.length:Int);lia,I.1.2.2.2,by show p.d<=(e.length:Int);lia,Y.aF,ab.aF⟩,λC o av i r B R=>?_⟩;exact k C o av (as.trans i aK) r B R
 |false=>
  refine iP ?_;rw[Vg (by rw[aT];decide)] at k;walk_at "go";by_cases az:p.kind=0
  ·refine bv az ?_;rw[Vh az] at k;exists mv T aG J λb0 an=>?_;exists bE m an J rfl b_ λba O=>?_;subst O;exists⟨L,l,ys,e,_,(n.aW.getD m 0,cf p.q),rfl,J,ag,M,am,⟨_,rfl,aJ⟩,⟨by show 0<=n.aW.getD m 0;lia,by show n.aW.getD m 0<(e.length:Int);lia,(Y.at (by show(n.aW.getD m 0).toNat<e.length;lia)).sz,ab.sz⟩,λC o av i r B R=>?_⟩;exact k C o av (as.trans i aK) r B R
  refine bf az ?_;rw[Vg az] at k;walk_at "go";by_cases aA:p.kind=1
  ·refine bv aA ?_;rw[Vh aA] at k;exists bT L J bC aJ ⟨al.sz,ab.sz⟩ λC o ba i O=>?_;have r:=i.hs _ _ M;have B:o l=none:=i.fr l ag aK;exists⟨o,l,ys,e,_,(p.a,p.b,bI aj (cf p.q)),rfl,i.sub,B,r,Paired.imp (λ_ _ g=>Mo.mo i.gs g) am,⟨_,rfl,O⟩,⟨I.1.1,by show p.a<=(e.length:Int);lia,I.1.2.1,by show p.b<=(e.length:Int);lia,Y.aF,(al.bI ab).aF⟩,λaS aO bd aX a4 a1 S=>?_⟩;exact k aS aO bd ((as.then M i).trans aX (by rw[r];exact λg=>nomatch g)) a4 a1 S
  refine bf aA ?_;rw[Vg aA] at k;walk_at "go";by_cases aC:p.kind=2
  ·refine bv aC ?_;rw[Vh aC] at k;exists Ct T aG J λb0 an=>?_;exists bE m an J rfl bt λba O=>?_;generalize n.eO.getD m []=ar at O k cy bN;refine CT (λj aN X z=>bG l H G X z/\aB L z/\z l=none/\(∃aa,X l=some (.aq aa)/\Paired (RF K z) aa (jO n aj e (ar.take j)))/\((jO n aj e (ar.take j)).length=e.length/\dJ (1200+51*j) (jO n aj e (ar.take j)))/\
     ∃bX bY:b9,aN=[some (.ref l),some bb,some (.int m),some bc,some u,some cG,bX,bY]) O J
    ⟨as,aB.refl _,ag,⟨ys,M,am⟩,⟨rfl,Y⟩,none,none,rfl⟩ (λj aN X z p=>⟨p.2.1,p.1.sub⟩) ?_ ?_
   ·rintro j y c4 aN X z ao cu ⟨aD,aE,a0,⟨aa,ak,aI⟩,⟨a5,bD⟩,cA,cB,rfl⟩;have cT:=(Vj.mp ao).1;obtain⟨c6,c7,b2,cK⟩:=bN y (Vf ao);have a8:=aD.sub;have b':n.aW[y.1.toNat]? =some (n.aW.getD y.1.toNat 0):=getD_some (by rw[N.o_];lia);obtain⟨c8,c9⟩:=N.pf y.1.toNat ⋯ (by rw[cK];decide);have ce:dE K A z bb n:=Mo.mo aE aG;have ch:RF K z bc aj:=Mo.mo aE bC;have bl:FB 50 (bI aj y.2):=al.bI b2;exists mv T ce a8 λc5 cx=>?_;exists bE y.1.toNat cx a8 ⋯ b' λcH a7=>?_;subst a7;exists bT z a8 ch cu ⟨al.sz,b2.sz⟩ λcN b3 c2 bm cs=>?_;exists dG b3 bm.sub cs trivial λcO be c3 bp ct=>?_;have ad:=bm.trans bp;have bH:=ad.hs _ _ ak;have cb:be l=none:=ad.fr l a0 (by rw[ak];exact λg=>nomatch g);have bM:(n.aW.getD y.1.toNat 0).toNat<(jO n aj e (ar.take j)).length:=by rw[a5];lia
    exists⟨be,l,aa,_,_,(n.aW.getD y.1.toNat 0,cf (bI aj y.2)),rfl,bp.sub,cb,bH,Paired.imp (λ_ _ g=>Mo.mo ad.gs g) aI,⟨_,rfl,ct⟩,⟨by show 0<=n.aW.getD y.1.toNat 0;lia,by show n.aW.getD y.1.toNat 0<((jO n aj e (ar.take j)).length:Int);rw[a5];lia,(bD.at bM).sz ⋯,bl.neg.sz⟩,λcP b4 cL bq ci cc cm=>?_⟩;refine⟨b4,(aD.then ak ad).trans bq (by rw[bH];exact λg=>nomatch g),aE.trans (ad.gs.trans bq.gs),cc,⟨cL,ci,by rw[xA ao];exact cm⟩,⟨by rw[xA ao,jn];exact a5,?_⟩,_,_,rfl⟩;rw[xA ao];exact(bD.cW bl.neg bM).aF ⋯
   ·rintro aN X z ⟨aD,aE,a0,⟨aa,ak,aI⟩,_,cA,cB,rfl⟩;rw[Wj] at aI;exact k X z aa aD ak a0 aI
  refine bf aC ?_;rw[Vg aC] at k;exists dG L J rfl trivial λC o ba i O=>?_;subst O;have a':=i.sub;have r:=i.hs _ _ M;have B:o l=none:=i.fr l ag aK;have bL:Paired (RF K o) ys e:=Paired.imp (λ_ _ g=>Mo.mo i.gs g) am;have b1:=as.then M i
  have cY:=i.up cr;have cz:C l≠none:=by rw[r];exact λg=>nomatch g
  walk_at "go";cases aU:gG p.kind with
  |true=>refine jV ?_;rw[Vh aU] at k;obtain⟨bR,cF⟩:=bJ aU;have c0:=I.1.2.2.1;have b8:n.aW[p.c.toNat]? =some (n.aW.getD p.c.toNat 0):=getD_some (by rw[N.o_];lia);obtain⟨cR,cS⟩:=N.pf p.c.toNat ⋯ cF;exists mv T (i.up aG) a' λb0 an=>?_;exists bE p.c.toNat an a' ⋯ b8 λcH a7=>?_;subst a7;exists⟨o,l,ys,e,_,(n.aW.getD p.c.toNat 0,cf p.q),rfl,a',B,r,bL,⟨_,rfl,i.up aJ⟩,⟨by show 0<=n.aW.getD p.c.toNat 0;lia,by show n.aW.getD p.c.toNat 0<(e.length:Int);lia,(Y.at (by show(n.aW.getD p.c.toNat 0).toNat<e.length;lia)).sz,ab.sz⟩,λaS aO bd aX a4 a1 S=>?_⟩;exact k aS aO bd (b1.trans aX cz) a4 a1 S
  |false=>refine iP ?_;rw[Vg (by rw[aU];decide)] at k;exists k C o ys b1 r B bL
structure fW(M:bL)(H G Z G':Hp):Prop where
 hs:∀b o,b∉M->H b=some o->Z b=some o
 gs:aB G G'
 sub:aB G' Z
 fr:∀b,G b=none->H b≠none->G' b=none
def al.m{M:bL}{H G c a:Hp}(e:al H G c a):fW M H G c a:=⟨λb o _ h=>e.hs b o h,e.gs,e.sub,e.fr⟩
def bG.m{x:Addr}{M:bL}{H G c a:Hp}(e:bG x H G c a)(f:x∈M):fW M H G c a:=⟨λb o d h=>e.hs b o (λg=>d (g▸f)) h,e.gs,e.sub,e.fr⟩
def fW.trans{M:bL}{H G e f i g:Hp}(a:fW M H G e f)(b:fW M e f i g)(l:∀x∈M,e x≠none):fW M H G i g:=
 ⟨λc o d h=>b.hs c o d (a.hs c o d h),a.gs.trans b.gs,b.sub,λc d k=>b.fr c (a.fr c d k) (by
  by_cases j:c∈M
  ·exact l c j
  ·cases q:H c with
   |none=>exact absurd q k
   |some o=>rw[a.hs c o j q];exact λm=>nomatch m)⟩
structure Mat(K:Frag)(H G:Hp)(L:Addr)(ls:bL)(rows:cv):Prop where
 aq:H L=some (.aq (ls.map V.ref))
 nd:ls.Nodup
 gL:G L=none
 nL:L∉ls
 gl:∀l∈ls,G l=none
 row:Paired (λl row=>∃ys,H l=some (.aq ys)/\Paired (RF K G) ys row) ls rows
def Mat.there{K:Frag}{H G:Hp}{L:Addr}{a:bL}{d:cv}(M:Mat K H G L a d):∀x∈a,H x≠none:=by intro x c;obtain⟨i,b,e⟩:=List.mem_iff_getElem.mp c;obtain⟨r,_,ys,q,_⟩:=Paired.jb M.row (show a[i]? =some x by rw[Ve b,e]);rw[q];exact λf=>nomatch f
def Mat.ext{K:Frag}{H G c b:Hp}{L:Addr}{f:bL}{g:cv}(M:Mat K H G L f g)(e:al H G c b):Mat K c b L f g:=
 ⟨e.hs _ _ M.aq,M.nd,e.fr L M.gL (by rw[M.aq];exact λa=>nomatch a),M.nL,λl d=>e.fr l (M.gl l d) (M.there l d),Paired.imp (λ_ _ ⟨ys,h,i⟩=>⟨ys,e.hs _ _ h,Paired.imp (λ_ _ a=>Mo.mo e.gs a) i⟩) M.row⟩
theorem ET{k β:Type}{m j:k->β->Prop}:∀{c:List k}{d:List β}{i:Nat}{l:k}{r:β},c.Nodup->Paired m c d->c[i]? =some l->(∀x y,x≠l->m x y->j x y)->j l r->Paired j c (d.set i r)
 |_,_,_,_,_,_,.nil,h,_,_=>by simp at h
 |a::c,b::d,0,l,r,p,.cons q t,h,f,n=>by
  have e:a=l:=by simpa using h
  subst e;obtain⟨o,u⟩:=WT.mp p;refine .cons n ?_;have z:∀{c:List k}{d:List β},a∉c->Paired m c d->Paired j c d:=by
   intro c d s v;induction v with
   |nil=>exact .nil
   |cons q t w=>exact .cons (f _ _ (λg=>s (g▸VY ..)) q) (w λg=>s (VI _ g))
  exact z o t
 |a::c,b::d,i+1,l,r,p,.cons q t,h,f,n=>by
  obtain⟨o,u⟩:=WT.mp p;have h':c[i]? =some l:=by simpa using h
  exact .cons (f _ _ (λg=>o (g▸Vf h')) q) (ET u t h' f n)
def Mat.set{K:Frag}{H G d b:Hp}{L:Addr}{f:bL}{h:cv}{i:Nat}{l:Addr}{ys:aQ}{r:aG}(M:Mat K H G L f h)(g:f[i]? =some l)(e:bG l H G d b)(m:d l=some (.aq ys))(s:b l=none)(o:Paired (RF K b) ys r):
  Mat K d b L f (h.set i r):=by
 have n:=Vf g;have p:L≠l:=λa=>M.nL (a▸n);refine⟨e.hs _ _ p M.aq,M.nd,e.fr L M.gL (by rw[M.aq];exact λa=>nomatch a),M.nL,λx c=>e.fr x (M.gl x c) (M.there x c),?_⟩;exact ET M.nd M.row g (λx y c ⟨q,j,k⟩=>⟨q,e.hs _ _ c j,Paired.imp (λ_ _ a=>Mo.mo e.gs a) k⟩) ⟨ys,m,o⟩
def Mat.aC{K:Frag}{H G:Hp}{L:Addr}{a:bL}{b:cv}(M:Mat K H G L a b):a.length=b.length:=VP M.row
inductive Ii(K:Frag)(A:bV)(vs:List V)(H:Hp)(Q:VK)(E:XK):Prop
 |mk (G v n) (_:vs=[v]) (_:aB G H) (_:dE K A G v n) (_:(0<=n.size/\n.size<=100)) (_:∀Z G' D ys,al H G Z G'->H D=none->Z D=some (.aq ys)->G' D=none->Paired (RF K G') ys (List.replicate n.size.toNat am)->Q (.ref D) Z):Ii K A vs H Q E
def Ez(T:Tx P K mg A):Fn P w K mg ah 41 "empty_row" ["network"] (Ii K A):=by
 refine T.Ls.fn Ai (by rintro vs H Q E ⟨_,_,_,rfl,_⟩;rfl) λf u r z s H vs Q E y h=>?_;obtain⟨G,q,n,rfl,p,c,⟨x,v⟩,k⟩:=h;refine⟨_,(aw (aJ (j2 rfl Ai.nd (lR (by rfl) T.hR (a9 (ay K ap))) (hW (own:=[("k",1)]) (by show gC ["network","k"] (aM zX) _ _=true;decide+kernel)) (λ_ _ _ _ _=>(bU 1 Ai.nd)) (λ_ _ _ _ _=>iV) (λ_ _ _ _ _=>(aY T.mn))))),?_⟩
 try simp only[bn]
 refine br [some q,none] ?_;exists⟨n.size,rfl,⋯,⋯,?_⟩;refine oK (rr:=RF K) (G:=G) n.size.toNat (λj=>0+(j:Int)) (λj=>List.replicate j am) p rfl (λj o=>by rw[Ws];exact dB ⋯) (λ_ _ h=>h) (λ_=>Vm _) (λ_ _ _ _ h=>h) (λ_=>rfl) ?_ ?_
 ·intro j b a C t o e m _;walk_at "go";exists m _ am _ _ (al.refl e.sub) (T.mF a) ?_;show List.replicate (j+1) am=List.replicate j am++[am];rw[List.replicate_succ']
 ·intro b a d ys e c g i l;exact k b a d ys e c g i l
def QU(c:cv)(d a b:Int):Prop:=0<=d/\0<=a/\a<=c.length/\0<=b/\b<=c.length/\(∀r∈c,d<r.length)/\(∀i:Nat,(i:Int)=a-1\/(i:Int)=b-1->dJ 2000 (c.getD i []))
inductive Ia(K:Frag)(vs:List V)(H:Hp)(Q:VK)(E:XK):Prop
 |mk (G L ls rows spot a b) (_:vs=[.ref L,.int spot,.int a,.int b]) (_:aB G H) (_:Mat K H G L ls rows) (_:QU rows spot a b) (_:∀Z G',fW ls H G Z G'->Mat K Z G' L ls (gA rows spot a b)->Q .aO Z):Ia K vs H Q E
def OB{b:cv}{i:Nat}{r:aG}{a:Int}(h:∀r∈b,a<r.length)(c:a<r.length):∀x∈b.set i r,a<x.length:=by
 intro x d;rcases V7 d with q|q
 ·exact h x q
 ·subst q;exact c
def Pn(T:Tx P K mg A):Fn P w K mg ah 43 "add_current" ["rows","spot","a","b"] (Ia K):=by
 have aj:=sE w ah T;have aE:=vM w ah T;refine T.Lg.fn RX (by rintro vs H Q E ⟨_,_,_,_,_,_,_,rfl,_⟩;rfl) λf aW aU a5 s H vs Q E ad h=>?_;obtain⟨G,L,p,o,c,a,b,rfl,aA,M,⟨ay,aX,a0,a1,a2,ag,af⟩,k⟩:=h;obtain⟨aM,am⟩:∃v,v=V.ref L:=⟨_,rfl⟩
 obtain⟨aN,an⟩:∃v,v=V.int c:=⟨_,rfl⟩
 obtain⟨aQ,ao⟩:∃v,v=V.int a:=⟨_,rfl⟩
 obtain⟨aR,ar⟩:∃v,v=V.int b:=⟨_,rfl⟩
 rw[<-am, <-an, <-ao, <-ar];refine⟨_,(au (a_ (bg jf aP az)
    (aw (dU (aL aj ad (bZ (px K ap (bF jg aP az)) ax (aY T.pQ)))))
    bx)
   (aw (a_ (bg jf aZ az)
    (aw (dU (aL aj ad (bZ (px K ap (bF jg aZ az)) ax (aL aE ad (a9 (aY T.pQ)))))))
    bx))),?_⟩
 try simp only[bn]
 refine br [some aM,some aN,some aQ,some aR] ?_;subst am an ao ar;have a4:=M.aC;have aB:∀(C u:Hp)(q:cv),fW p H G C u->Mat K C u L p q->q.length=o.length->(∀r∈q,c<r.length)->(∀i:Nat,(i:Int)=b-1->dJ 3000 (q.getD i []))->
   ((b=0->q=gA o c a b)/\(b≠0->ir q (b-1) c (cf bO)=gA o c a b))->
   tz (ph (gu mQ (cQ 3) (tC (.int 0)))) (qF (lX (nV K (t9 K) vQ λaK b=>cW aK b.1 b.2) [] E0 (dD (gu (iC K) (cQ 0) (gu (lu λi j=>.int (i-j)) (cQ 3) (tC (.int 1)))) (dD (cQ 1) (dD (lX (bW (RF K) (RF K) (λ_=>True) cf) [] E0 (dD (tC (.ref A.ou)) eU)) eU))))) qG
    {nx:=λx aG=>Q V.aO aG,rt:=Q} [some (.ref L),some (.int c),some (.int a),some (.int b)] C:=by
  intro C u q S I a3 aI aH as;walk_at "go";by_cases g:b=0
  ·rw[Vg (lI g)];exists k C u S ?_;rw[<-as.1 g];exact I
  ·rw[Vh (kW g)];have t:(b-1).toNat<p.length:=by lia
   have e:p[(b-1).toNat]? =some p[(b-1).toNat]:=Ve t;have z:=aH (b-1).toNat ⋯;have B:=aI _ (eD (d:=[]) (show(b-1).toNat<q.length by lia));exists kz (b-1).toNat I.aq ⋯ (by rw[Vq,e];rfl) ?_;generalize p[(b-1).toNat]=l at e;exists dG u S.sub (T.pZ u) trivial λaV aD a6 W aJ=>?_;have J:=I.ext W;obtain⟨n,ae,ys,Y,ab⟩:=Paired.jb J.row e;have F:q.getD (b-1).toNat []=n:=mC ae;rw[F] at z B;exists⟨aD,l,ys,n,_,(c,cf bO),rfl,W.sub,J.gl l (Vf e),Y,ab,⟨_,rfl,aJ⟩,⟨ay,B,(z.at (by show c.toNat<n.length;lia)).sz,FB.one.neg.sz⟩,λO N aS D aa X ac=>?_⟩;have R:=J.set e D aa X ac;refine k O N ((S.trans W.m (λx ai=>I.there x ai)).trans (D.m (Vf e)) (λx ai=>J.there x ai)) ?_;rw[<-as.2 g];unfold ir;rw[F];exact R
 walk_at "go";by_cases y:a=0
 ·rw[Vg (lI y)];refine aB H G o (al.refl aA).m M rfl ag (λi t=>(af i (Or.inr t)).aF) ⟨λg=>?_,λg=>?_⟩
  ·unfold gA;rw[Vh g,Vh y]
  ·unfold gA;rw[Vg g,Vh y]
 ·rw[Vh (kW y)];have t:(a-1).toNat<p.length:=by lia
  have e:p[(a-1).toNat]? =some p[(a-1).toNat]:=Ve t;have z:=af (a-1).toNat (Or.inl ⋯);have B:=ag _ (eD (d:=[]) (show(a-1).toNat<o.length by lia));exists kz (a-1).toNat M.aq ⋯ (by rw[Vq,e];rfl) ?_;generalize p[(a-1).toNat]=l at e;obtain⟨n,ae,ys,Y,ab⟩:=Paired.jb M.row e;have F:o.getD (a-1).toNat []=n:=mC ae;rw[F] at z B;exists⟨G,l,ys,n,_,(c,bO),rfl,aA,M.gl l (Vf e),Y,ab,⟨_,rfl,T.pZ G⟩,⟨ay,B,(z.at (by show c.toNat<n.length;lia)).sz,FB.one.sz⟩,λO N aS D aa X ac=>?_⟩;have R:=M.set e D aa X ac;have ak:ir o (a-1) c bO=o.set (a-1).toNat (cW n c bO):=by unfold ir;rw[F]
  refine aB O N _ (D.m (Vf e)) R (by rw[WD]) (OB ag (by rw[jn];exact B)) (λi t=>?_) ⟨λg=>?_,λg=>?_⟩
  ·by_cases av:i=(a-1).toNat
   ·subst av;have:(o.set (a-1).toNat (cW n c bO)).getD (a-1).toNat []=cW n c bO:=mC (by rw[Wq ⋯]);rw[this];exact(z.cW FB.one ⋯).aF
   ·have:(o.set (a-1).toNat (cW n c bO)).getD i []=o.getD i []:=by
     rw[Vd,Vd,Ww (λaT=>av aT.symm)]
    rw[this];exact(af i (Or.inr t)).aF
  ·unfold gA;rw[Vh g,Vg y,ak]
  ·unfold gA;rw[Vg g,Vg y,ak]
structure jI(K:Frag)(H0 H G:Hp)(L:Addr)(ls:bL)(rows:cv):Prop extends Mat K H G L ls rows where
 nw:∀l∈ls,H0 l=none
 sC:H0 L=none
def al.IY{M:bL}{H G g e i f:Hp}(a:al H G g e)(b:fW M g e i f)(m:∀l∈M,H l=none):al H G i f:=
 ⟨λc o h=>b.hs c o (λd=>by rw[m c d] at h;cases h) (a.hs c o h),a.gs.trans b.gs,b.sub,λc k j=>b.fr c (a.fr c k j) (λd=>j (a.hs.free d))⟩
def al.wN{x:Addr}{H G f d g e:Hp}(a:al H G f d)(b:bG x f d g e)(k:H x=none):al H G g e:=
 ⟨λc o h=>b.hs c o (dI h k) (a.hs c o h),a.gs.trans b.gs,b.sub,λc j i=>b.fr c (a.fr c j i) (λl=>i (a.hs.free l))⟩
def jI.gr{g j H G:Hp}{L:Addr}{a:bL}{n:cv}(M:jI K g H G L a n)(e:al g j H G):∃c,al g j H c/\RL (RL (RF K)) c (.ref L) n:=by
 let c:Hp:=λb=>if b=L\/b∈a then H b else G b
 have k:aB G c:=λb o h=>by
  show(if b=L\/b∈a then H b else G b)=some o;split
  ·exact e.sub b o h
  ·exact h
 refine⟨c,⟨e.hs,e.gs.trans k,λb o h=>?_,λb u d=>?_⟩,L,a.map V.ref,rfl,?_,?_⟩
 ·have h':(if b=L\/b∈a then H b else G b)=some o:=h;split at h'
  ·exact h'
  ·exact e.sub b o h'
 ·show(if b=L\/b∈a then H b else G b)=none;rw[Vg]
  ·exact e.fr b u d
  ·rintro(q|q)
   ·rw[q] at d;exact d M.sC
   ·exact d (M.nw b q)
 ·show(if L=L\/L∈a then H L else G L)=_;rw[Vh (Or.inl rfl)];exact M.aq
 ·have z:∀{f:bL}{i:cv},(∀l∈f,l∈a)->Paired (λl A=>∃ys,H l=some (.aq ys)/\Paired (RF K G) ys A) f i->Paired (RL (RF K) c) (f.map V.ref) i:=by
   intro f i m v;induction v with
   |nil=>exact .nil
   | @cons l r _ _ q t y=>obtain⟨ys,p,s⟩:=q;refine .cons ⟨l,ys,rfl,?_,Paired.imp (λ_ _ B=>Mo.mo k B) s⟩ (y λx w=>m x (VI _ w));show(if l=L\/l∈a then H l else G l)=_;rw[Vh (Or.inr (m l (VY ..)))];exact p
  exact z (λ_ h=>h) M.row
def N3{B:L2.St}{H G:Hp}{Q:VK}{T:TE}{i:Nat}{vs:List Nat}(m:Nat)(av:m<=100)(s:aB G H)(ak:∀w:V,cZ ((cZ B vs).set i (some w)) vs=cZ B vs)
  (aj:∀(j:Nat)(g n:Hp)(R:VK),al H G g n->(∀o C h ys,al g n o C->g h=none->o h=some (.aq ys)->C h=none->Paired (RF K C) ys (List.replicate m am)->R (.ref h) o)->T ((cZ B vs).set i (some (.int (0+(j:Int))))) g R)
  (k:∀g n L d,al H G g n->jI K H g n L d (List.replicate m (List.replicate m am))->Q (.ref L) g):oj (mZ 0 m) (dA i) qI T vs B H Q:=by
 intro h r;refine⟨λj c g=>c=m-j/\j<=m/\∃n d,al H G g n/\jI K H g n h d (List.replicate j (List.replicate m am)),⟨m,by simp,We _,G,[],al.kH s r,⟨⟨aS,List.nodup_nil,s.free r,by simp,by simp,.nil⟩,by simp,r⟩⟩,?_⟩;rintro j c g ⟨rfl,au,n,d,e,M⟩;by_cases O:j<m
 ·refine .inr ⟨O,λD=>∃J d,al H G D J/\jI K H D J h d (List.replicate (j+1) (List.replicate m am)),λD q=>⟨m-(j+1),⋯,rfl,O,q⟩,?_⟩;rintro x o ⟨rfl,rfl⟩;refine uT ⟨ak _,yj ?_⟩;refine jV ?_;refine aj j o n _ e λE y l ys N z ad X ag=>?_;have p:=M.toMat.ext N;have ae:d.length=j:=by rw[M.aC,Ws]
  have ar:l∉d:=λf=>M.there l f z;have S:l≠h:=λf=>by rw[f,M.aq] at z;cases z
  refine⟨d.map V.ref,p.aq,by rw[Vn,ae];exact dB ⋯,y,d++[l],(e.trans N).eV r p.gL,⟨⟨?_,?_,p.gL,?_,?_,?_⟩,?_,r⟩⟩
  ·rw[aS,VN];rfl
  ·refine List.nodup_append.mpr ⟨M.nd,by simp,?_⟩;intro a ab b ac;have:b=l:=by simpa using ac
   rw[this];exact λf=>ar (f▸ab)
  ·intro f;rcases VQ.mp f with q|q
   ·exact M.nL q
   ·exact S (VH.mp q).symm
  ·intro f u;rcases VQ.mp u with q|q
   ·exact p.gl f q
   ·rw[VH.mp q];exact X
  ·rw[List.replicate_succ'];refine Xw ?_ ⟨ys,by rw[bA S];exact ad,ag⟩;have ap:Paired (λF v=>∃ys,(ai E h (.aq (d.map V.ref++[.ref l]))) F=some (.aq ys)/\Paired (RF K y) ys v) d (List.replicate j (List.replicate m am)):=by
    have ah:∀{A:bL}{I:cv},(∀f∈A,f≠h)->Paired (λl v=>∃ys,E l=some (.aq ys)/\Paired (RF K y) ys v) A I->Paired (λF v=>∃ys,(ai E h (.aq (d.map V.ref++[.ref l]))) F=some (.aq ys)/\Paired (RF K y) ys v) A I:=by
     intro A I P af;induction af with
     |nil=>exact .nil
     |cons q t ao=>obtain⟨as,Y,aa⟩:=q;exact .cons ⟨as,by rw[bA (P _ (VY ..))];exact Y,aa⟩ (ao λx an=>P x (VI _ an))
    exact ah (λf u=>λq=>M.nL (q▸u)) p.row
   exact ap
  ·intro f u;rcases VQ.mp u with q|q
   ·exact M.nw f q
   ·rw[VH.mp q];exact e.hs.free z
 ·have W:j=m:=by lia
  subst W;exact .inl ⟨Vm _,k g n h d e M⟩
def FB.TU{b:Nat}(h:20<=b):FB b am:=(FB.aF (show FB 20 am from FB.zero) h)
def dJ.getD{b:Nat}{a:aG}(h:dJ b a)(c:20<=b)(i:Nat):FB b (a.getD i am):=by
 by_cases d:i<a.length
 ·exact h.at d
 ·rw[Vd,Wn ⋯];exact FB.TU c
def dJ.ow{a c:Nat}{d:aG}{g:Int}{x:Fr}(h:dJ a d)(e:20<=a)(f:FB c x):dJ (a+c+1) (Nt.cW d g x):=by
 intro y b;unfold Nt.cW at b;rcases V7 b with q|q
 ·exact(h y q).aF ⋯
 ·rw[q];exact(h.getD e _).plus f
def ud(c:aG)(a b:Int)(x:Fr):(iw c a b x).length=c.length:=by
 unfold iw;split
 ·split
  ·rfl
  ·exact jn _ _ _
 ·rw[jn];split
  ·rfl
  ·exact jn _ _ _
def dJ.volt{a:Nat}{c:aG}{p q:Int}(h:dJ a c)(b:20<=a):dJ (a+42) (iw c p q bO):=by
 unfold iw;split
 ·split
  ·exact h.aF ⋯
  ·exact(h.ow b FB.one).aF ⋯
 ·split
  ·exact(h.ow b FB.one.neg).aF ⋯
  ·exact((h.ow b FB.one).ow ⋯ FB.one.neg).aF ⋯
def I_(a:aG)(n:bB)(k:Nat)(b:ao):(jk a n k b).length=a.length:=by
 unfold jk;split
 ·rfl
 ·split
  ·exact jn _ _ _
  ·exact ud _ _ _ _
def dJ.told{a:Nat}{c:aG}{n:bB}{k:Nat}{d:ao}(h:dJ a c)(b:20<=a):dJ (a+42) (jk c n k d):=by
 unfold jk;split
 ·exact h.aF ⋯
 ·split
  ·exact(h.ow b FB.one).aF ⋯
  ·exact h.volt b
theorem Bd(n:bB)(aj:Fr):∀(l:List (Int×Fr))(a:aG),(jO n aj a l).length=a.length
 |[],_=>rfl
 |x::l,a=>by show(jO n aj (cW a (n.aW.getD x.1.toNat 0) (cf (bI aj x.2))) l).length=a.length;rw[Bd n aj l,jn]
def Tf(a:aG)(n:bB)(k:Nat)(aj:Fr):(lY a n k aj).length=a.length:=by
 unfold lY;split
 ·exact ud _ _ _ _
 split
 ·exact ud _ _ _ _
 split
 ·exact jn _ _ _
 split
 ·exact ud _ _ _ _
 split
 ·exact Bd _ _ _ _
 split
 ·exact jn _ _ _
 ·rfl
structure ip(n:bB)(rows:cv)(b:Nat)(z:Int):Prop where
 aC:rows.length=n.size.toNat
 rl:∀r∈rows,r.length=n.size.toNat
 nb:∀i:Nat,(i:Int)<n.nodes->dJ b (rows.getD i [])
 zr:∀i:Nat,z<=i->(i:Int)<n.size->rows.getD i []=List.replicate n.size.toNat am
def C'{a:Type}{l:List a}{i j:Nat}{x d:a}(h:i≠j):(l.set i x).getD j d=l.getD j d:=by rw[Vd,Vd,Ww h]
def C_{a:Type}{l:List a}{i:Nat}{x d:a}(h:i<l.length):(l.set i x).getD i d=x:=mC (by rw[Wq h])
def ip.put{n:bB}{d:cv}{b a:Nat}{h e:Int}{i:Nat}{r:aG}(R:ip n d b h)(p:r.length=n.size.toNat)(k:b<=a)(u:h<=e)(s:(i:Int)<e)(o:(i:Int)<n.nodes->dJ a r):ip n (d.set i r) a e:=by
 refine⟨by rw[WD];exact R.aC,λx c=>?_,λj g=>?_,λj t l=>?_⟩
 ·rcases V7 c with q|q
  ·exact R.rl x q
  ·subst q;exact p
 ·by_cases f:i=j
  ·subst f;by_cases m:i<d.length
   ·rw[C_ m];exact o g
   ·rw[Vd,Wn (by rw[WD];lia)];intro x c;simp at c
  ·rw[C' f];exact(R.nb j g).aF k
 ·rw[C' ⋯];exact R.zr j ⋯ l
def ip.Nw{n:bB}{a:cv}{b:Nat}{d:Int}(R:ip n a b d){i:Nat}(c:i<n.size.toNat):(a.getD i []).length=n.size.toNat:=R.rl _ (eD (by rw[R.aC];exact c))
def ip.B2{n:bB}{d:cv}{b:Nat}{e j a c:Int}(R:ip n d b e)(g:20<=b)(s:n.nodes<=e)(r:n.nodes<=n.size)(p:0<=a/\a<=n.nodes)(q:0<=c/\c<=n.nodes):ip n (gA d j a c) (b+42) e:=by
 have k:∀{d:cv}{b:Nat}{i:Int}{x:Fr},ip n d b e->20<=b->0<=i->i<n.nodes->FB 20 x->ip n (ir d i j x) (b+21) e:=by intro d b i x R g m o l;unfold ir;refine R.put (by rw[jn];exact R.Nw ⋯) ⋯ (Int.le_refl _) ⋯ λ_=>?_;exact((R.nb i.toNat ⋯).ow g l).aF ⋯
 have f:ip n (if a=0 then d else ir d (a-1) j bO) (b+21) e:=by
  split
  ·exact⟨R.aC,R.rl,λi h=>(R.nb i h).aF ⋯,R.zr⟩
  ·exact k R g ⋯ ⋯ FB.one
 unfold gA;split
 ·exact⟨f.aC,f.rl,λi h=>(f.nb i h).aF ⋯,f.zr⟩
 ·exact k f ⋯ ⋯ ⋯ FB.one.neg
def v_(m:Nat):dJ 20 (List.replicate m am):=λx a=>by rw[V_ a];exact FB.zero
def jI.wD{d H G b a:Hp}{L:Addr}{c:bL}{f:cv}{i:Nat}{l:Addr}{ys:aQ}{r:aG}(M:jI K d H G L c f)(h:c[i]? =some l)(e:bG l H G b a)(j:b l=some (.aq ys))(g:a l=none)(k:Paired (RF K a) ys r):
  jI K d b a L c (f.set i r):=⟨M.toMat.set h e j g k,M.nw,M.sC⟩
def N0(n:bB)(aj:Fr)(a:ao)(j:Nat):iR n aj a (j+1)=mI n aj a (iR n aj a j) j:=by unfold iR;rw[V2,Wl];rfl
def Fd(n:bB)(aj:Fr)(a:ao):Prop:=im n/\FB 30 aj/\a.length=n.diodes.length
def PL(T:Tx P K mg A):Fn P w K mg ah 45 "law_rows" ["network","pace","states"] (eG (dE K A) (RF K) (RT K RI) (RL (RL (RF K))) Fd fm):=by
 have b3:=Ez w ah T;have bb:=Pn w ah T;have b2:=Pp w ah T;have b1:=Po w ah T;have ba:=sE w ah T;refine T.LJ.fn qu eG.aC λf c8 c3 dp s H vs Q E o h=>?_;obtain⟨G,a3,bS,bT,n,aj,g,rfl,cT,ac,bD,bG,⟨N,cx,cC⟩,k⟩:=h
 refine⟨_,(au (sR (i:=3) rfl qu.nd rfl rfl (tu rfl rfl rfl rfl) (lR (by rfl) T.hR (a9 (ay K ap))) (hW (own:=[("law",4)]) (by show gC ["network","pace","states","rows","law","k","part","spot"] (aM zZ) _ _=true;decide+kernel)) (λ_ _ _ _ _=>(bU 4 qu.nd)) (λ_ _ _ _ _=>iV) (λ_ _ _ _ _=>(aL b3 o (a9 ap))))
   (au (dY VJ rfl (sN (K:=K) (by rfl) T.rA (a9 (ay K ap))) (lp (K:=K) (n:=2) rfl (f_ (bU 5 qu.nd) (f_ (bU 6 qu.nd) lq)))
    (au (a_ (bg cp (ay K eF) (aY T.lH))
    (aw zC)
    bx)
   (au (bo 7 qu.nd (px K (ay K ap) da))
   (au (dU (aL bb o (f9 aZ (bZ gZ (ay K eF) (ay K eF)))))
   (au (dU (aL b2 o (f9 (px K aZ gZ) (bZ ap da aP))))
   (au (dU (aL b1 o (f9 (px K aZ gZ) (bZ ap da ax))))
   (aw (a_ (bg cp (ay K eF) (aY T.ux))
    (au (dU (aL bb o (f9 aZ (bZ (bF je gZ az) (ay K eF) (ay K eF)))))
   (au (dU (aL ba o (bZ (px K aZ (bF je gZ az)) (bF je gZ az) (aY T.pQ))))
   (aw (dU (aL ba o (bZ (px K aZ (bF je gZ az)) gZ (ay K eF)))))))
    bx))))))))
   (aw (aJ aZ)))),?_⟩
 try simp only[bn]
 refine br [some a3,some bS,some bT,none,none,none,none,none] ?_;have dl:=N.nodes;have dn:=N.sz;have dg:=N.aC;exists⟨n.size,rfl,⋯,⋯,?_⟩;refine N3 (K:=K) n.size.toNat ⋯ cT (λ_=>rfl) ?_ ?_
 ·intro j V y R e cK;exists⟨y,a3,n,rfl,e.sub,e.up ac,⟨⋯,⋯⟩,λaN Y bV ys aa a b c d=>cK aN Y bV ys aa a b c d⟩
 intro c4 bX L m av b8;exists jT T (av.up ac) av.sub λdu cH=>?_;walk_at "go";have b':ip n (iR n aj g 0) 20 (fw n.nodes (n.af.take 0)):=by show ip n (List.replicate n.size.toNat (List.replicate n.size.toNat am)) 20 n.nodes;have bC:∀i:Nat,i<n.size.toNat->(List.replicate n.size.toNat (List.replicate n.size.toNat am)).getD i []=List.replicate n.size.toNat am:=λi v=>mC (by rw[Wf,Vh v]);refine⟨Ws,λr o=>by rw[V_ o,Ws],λi v=>?_,λi _ v=>bC i ⋯⟩;rw[bC i ⋯];exact v_ _
 refine r9 (r:=dH K A) (λj aI V y=>al H G V y/\aB bX y/\jI K H V y L m (iR n aj g j)/\ip n (iR n aj g j) (20+100*j) (fw n.nodes (n.af.take j))/\∃a4 a5 a6 a7:b9,aI=[some a3,some bS,some bT,some (.ref L),a4,a5,a6,a7]) cH av.sub
  ⟨av,aB.refl _,b8,b',none,none,none,none,rfl⟩ (λj aI V y p=>⟨p.2.1,p.1.sub⟩) ?_ ?_
 ·rintro j p u aI V y aN Y aG cD ⟨e,bu,M,R,a4,a5,a6,a7,rfl⟩ aa;have X:=(Vj.mp aG).1;have ab:n.af.getD j ae=p:=mC aG;have cd:n.af.take (j+1)=n.af.take j++[p]:=by rw[VU,aG];rfl
  have aU:fw n.nodes (n.af.take (j+1))=fw n.nodes (n.af.take j)+gm p.kind:=by rw[cd,Av]
  have I:jI K H aN Y L m (iR n aj g j):=⟨M.toMat.ext aa,M.nw,M.sC⟩
  have W:=e.trans aa;have a1:=W.sub;have step:=N0 n aj g j;have cj:=W.up ac;have c9:=W.up bD;have c_:=W.up bG;have bw:=bu.trans aa.gs;generalize iR n aj g j=ai at I R step;clear M;have dh:=I.aC;have c':=R.aC;unfold mI at step;rw[ab] at step;walk_at "go";by_cases t:p.kind=3
  ·refine bv t ?_;rw[Vh t] at step;exists⟨Y,W,bw,by rw[step];exact I,?_,_,_,_,_,rfl⟩;rw[step,aU];have:gm p.kind=0:=by rw[t];rfl
   rw[this,Int.add_zero];exact⟨R.aC,R.rl,λi v=>(R.nb i v).aF ⋯,R.zr⟩
  refine bf t ?_;rw[Vg t] at step;obtain⟨bQ,dq,cP,cQ,dr⟩:=N.zw p (Vf aG);obtain⟨cL,cM⟩:=cP t;obtain⟨bL,bM,bN,bP⟩:=bQ.1;obtain⟨bW,b6⟩:=N.pf j X (by rw[ab];exact t);have a2:=N.b6 j X;rw[ab] at a2;have cU:=N.AB j X;have aT:n.aW[j]? =some (n.aW.getD j 0):=getD_some (by rw[N.o_];exact X);have de:1<=gm p.kind:=by unfold gm;rw[Vg t];split<;>decide
  generalize n.aW.getD j 0=sp at bW b6 a2 cU aT step;exists mv T cj a1 λdv cI=>?_;exists bE j cI a1 rfl aT λdt cG=>?_;subst cG;walk_at "go";have ct:∀i:Nat,(i:Int)<n.nodes->dJ 2000 (ai.getD i []):=λi v=>(R.nb i v).aF ⋯;refine⟨Y,L,m,ai,sp,p.a,p.b,rfl,a1,I.toMat,⟨⋯,bL,⋯,bM,⋯,λr o=>by rw[R.rl r o];lia,λi v=>ct i ⋯⟩,λb4 a8 aQ bc=>?_⟩;have B:jI K H b4 a8 L m (gA ai sp p.a p.b):=⟨bc,I.nw,I.sC⟩
  have ar:=W.IY aQ I.nw;have an:ip n (gA ai sp p.a p.b) (20+100*j+42) (fw n.nodes (n.af.take j)):=R.B2 ⋯ ⋯ ⋯ ⟨bL,cL⟩ ⟨bM,cM⟩;have ce:=bw.trans aQ.gs;generalize dm:gA ai sp p.a p.b=F at B an step;clear bc;have di:=B.aC;have db:=an.aC;have cl:sp.toNat<m.length:=by lia
  have O:m[sp.toNat]? =some m[sp.toNat]:=Ve cl;have c1:=an.zr sp.toNat ⋯ ⋯;exists kz sp.toNat B.aq ⋯ (by rw[Vq,O];rfl) ?_;generalize m[sp.toNat]=l at O;have aX:=Vf O;obtain⟨x,cz,cV,cn,cu⟩:=Paired.jb B.row O;have bp:F.getD sp.toNat []=x:=mC cz;have aV:x=List.replicate n.size.toNat am:=by rw[<-bp];exact c1
  have co:x.length=n.size.toNat:=by rw[aV,Ws]
  exists⟨a8,l,cV,x,_,(n,j,g),rfl,ar.sub,B.gl l aX,cn,cu,⟨_,_,rfl,ar.up ac,ar.up bG⟩,⟨N,by show(x.length:Int)=n.size;lia,by rw[aV];exact(v_ _).aF,X,by show(n.af.getD j ae).kind≠3;rw[ab];exact t,cC⟩,λc5 bY cX aA bH bA bJ=>?_⟩;have bd:=B.wD O aA bH bA bJ;have as:=ar.wN aA (B.nw l aX);exists kz sp.toNat bd.aq ⋯ (by rw[Vq,O];rfl) ?_;exists⟨bY,l,cX,jk x n j g,_,(n,j,aj),rfl,as.sub,bA,bH,bJ,⟨_,_,rfl,as.up ac,as.up bD⟩,⟨N,by show((jk x n j g).length:Int)=n.size;rw[I_];lia,by rw[aV];exact((v_ _).told ∅).aF,X,by show(n.af.getD j ae).kind≠3;rw[ab];exact t,cx⟩,λb5 ak dx aD cq ch cv=>?_⟩;have be:=bd.wD O aD cq ch cv;have aO:=as.wN aD (B.nw l aX);have bz:=ce.trans (aA.gs.trans aD.gs);have bs:mT F n aj g j=F.set sp.toNat (lY (jk x n j g) n j aj):=by unfold mT;rw[show n.aW.getD j 0=sp from mC aT,bp]
  have J:jI K H b5 ak L m (mT F n aj g j):=by
   rw[bs];have:(F.set sp.toNat (jk x n j g)).set sp.toNat (lY (jk x n j g) n j aj)=F.set sp.toNat (lY (jk x n j g) n j aj):=by rw[List.set_set]
   rw[<-this];exact be
  have z:ip n (mT F n aj g j) (20+100*j+42) (sp+1):=by rw[bs];exact an.put (by rw[Tf,I_];exact co) (Vm _) ⋯ ⋯ (λc0=>⋯)
  clear be;generalize mT F n aj g j=aH at J z step;have dj:=J.aC;have dc:=z.aC;have cE:dH K A ak u p:=Mo.mo (aQ.gs.trans (aA.gs.trans aD.gs)) cD;have cS:=aO.sub;walk_at "go";by_cases D:p.kind=10
  case neg=>
   refine bf D ?_;rw[Vg D] at step;exists⟨ak,aO,bz,by rw[step];exact J,?_,_,_,_,_,rfl⟩;rw[step,aU];refine⟨z.aC,z.rl,λi v=>(z.nb i v).aF ⋯,λi df ck=>z.zr i ?_ ck⟩;have:gm p.kind=1:=by unfold gm;rw[Vg t,Vg D]
   lia
  refine bv D ?_;rw[Vh D] at step;obtain⟨cN,cO⟩:=cQ (by rw[D];rfl);have ds:=a2 D;exists⟨ak,L,m,aH,sp+1,p.c,p.d,rfl,cS,J.toMat,⟨⋯,bN,⋯,bP,⋯,λr o=>by rw[z.rl r o];lia,λi v=>(z.nb i ⋯).aF ⋯⟩,λb7 aK aR bh=>?_⟩;have C:jI K H b7 aK L m (gA aH (sp+1) p.c p.d):=⟨bh,J.nw,J.sC⟩
  have bk:=aO.IY aR J.nw;have ao:ip n (gA aH (sp+1) p.c p.d) (20+100*j+42+42) (sp+1):=z.B2 ⋯ ⋯ ⋯ ⟨bN,cN⟩ ⟨bP,cO⟩;have cf:=bz.trans aR.gs;generalize gA aH (sp+1) p.c p.d=ag at C ao step;clear bh;have dk:=C.aC;have dd:=ao.aC;have cm:(sp+1).toNat<m.length:=by lia
  have S:m[(sp+1).toNat]? =some m[(sp+1).toNat]:=Ve cm;have c2:=ao.zr (sp+1).toNat ⋯ ⋯;exists kz (sp+1).toNat C.aq ⋯ (by rw[Vq,S];rfl) ?_;generalize m[(sp+1).toNat]=ad at S;have a0:=Vf S;obtain⟨rr,cA,cZ,cs,cy⟩:=Paired.jb C.row S;have bq:ag.getD (sp+1).toNat []=rr:=mC cA;have bt:rr=List.replicate n.size.toNat am:=by rw[<-bq];exact c2
  have cB:rr.length=n.size.toNat:=by rw[bt,Ws]
  have bj:dJ 20 rr:=by rw[bt];exact v_ _
  exists⟨aK,ad,cZ,rr,_,(sp+1,bO),rfl,bk.sub,C.gl ad a0,cs,cy,⟨_,rfl,T.pZ aK⟩,⟨by show 0<=sp+1;lia,by show sp+1<(rr.length:Int);lia,(bj.getD ∅ _).sz,FB.one.sz⟩,λc6 a' cY aE bI bB bK=>?_⟩;have bi:=C.wD S aE bI bB bK;have bl:=bk.wN aE (C.nw ad a0);have cg:=cf.trans aE.gs;have cF:dH K A a' u p:=Mo.mo (aR.gs.trans aE.gs) cE;have bR:=bl.sub;exists kz (sp+1).toNat bi.aq ⋯ (by rw[Vq,S];rfl) ?_;exists ja T cF bR λdw cJ=>?_;walk_at "go";have ca:dJ 41 (cW rr (sp+1) bO):=bj.ow ∅ FB.one;refine⟨a',ad,cY,cW rr (sp+1) bO,_,(sp,p.q),rfl,bR,bB,bI,bK,⟨_,rfl,cJ⟩,⟨by show 0<=sp;lia,by show sp<((cW rr (sp+1) bO).length:Int);rw[jn];lia,(ca.getD ∅ _).sz,bQ.2.sz⟩,λc7 b0 dy aS cr ci cw=>?_⟩;have b_:=bi.wD S aS cr ci cw;have cb:=bl.wN aS (C.nw ad a0);have bm:iR n aj g (j+1)=ag.set (sp+1).toNat (cW (cW rr (sp+1) bO) sp p.q):=by rw[step];unfold ir;rw[bq,C_ (show(sp+1).toNat<ag.length by lia),List.set_set]
  refine⟨b0,cb,cg.trans aS.gs,?_,?_,_,_,_,_,rfl⟩
  ·rw[bm];have:(ag.set (sp+1).toNat (cW rr (sp+1) bO)).set (sp+1).toNat (cW (cW rr (sp+1) bO) sp p.q)=ag.set (sp+1).toNat (cW (cW rr (sp+1) bO) sp p.q):=by rw[List.set_set]
   rw[<-this];exact b_
  ·rw[bm,aU];have:gm p.kind=2:=by rw[D];rfl
   refine ao.put (by rw[jn,jn];exact cB) ⋯ ⋯ ⋯ (λc0=>⋯)
 ·rintro aI V y ⟨e,bu,M,R,a4,a5,a6,a7,rfl⟩;walk_at "go";obtain⟨y,cc,cR⟩:=M.gr e;exact k _ _ _ cc cR
def C7{e:L2.St}{H:Hp}{d:TA}{R:It->Hp->Prop}(h:d e H λvs c=>∃a b xs ys,vs=[.ref a,.ref b]/\aT K c a xs/\bi K c b ys/\R (tM K a b) c):Dl K d e H R:=h
def CU{d:L2.St}{H G:Hp}{t:iI}{v F:V}{xs ys:ao}{a b:Nat}{E:TS}(i:Nat->L2.St->Hp->Hp->Prop)(h:RL RI G v xs)(h':RT K RI G F ys)(s:aB G H)(P:ys.length=xs.length)(M:i 0 d H G)(r:∀j d c g,i j d c g->aB G g/\aB g c)
  (Q:∀j x y d c g k m,xs[j]? =some x->ys[j]? =some y->i j d c g->al c g k m->dA a (.int x) d k λad L=>dA b (.int y) ad L (E {t with nx:=λz k=>∃m,i (j+1) z k m,ct:=λz k=>∃m,i (j+1) z k m,bk:=t.nx}))
  (O:∀d c g,i xs.length d c g->t.nx d c):∃p q us vs,[v,F]=[.ref p,.ref q]/\aT K H p us/\bi K H q vs/\mV (tM K p q) (pW K 2 (my (dA a) (my (dA b) rZ))) E t d H:=by
 obtain⟨p,us,rfl,A,C⟩:=h;obtain⟨q,vs,rfl,B,D⟩:=h';have W:us.length=xs.length:=VP C;have X:vs.length=ys.length:=VP D;have l:∀{j d c g},i j d c g->aT K c p us/\bi K c q vs:=λf=>⟨aT.of ((r _ _ _ _ f).2 _ _ ((r _ _ _ _ f).1 _ _ A)),bi.aF ((r _ _ _ _ f).1.trans (r _ _ _ _ f).2) B⟩
 refine⟨p,q,us,vs,rfl,aT.of (s _ _ A),bi.aF s B,oF (n:=xs.length) i M ?_ ?_ ?_ O⟩
 ·intro j d c g w f;exact⟨us,vs,us[j],vs[j],(l f).1,(l f).2,by simp[W,w],by simp[X,P,w]⟩
 ·intro d c g f;exact⟨us,vs,(l f).1,(l f).2,.inl (by omega)⟩
 ·rintro j u d c g k w f ⟨T,x,y,rfl,N,rfl,ab,ac⟩;obtain⟨I,R,Y⟩:=Paired.jb C (ab us (l f).1);obtain⟨J,S,aa⟩:=Paired.jb D (ac vs (l f).2);cases Y;cases aa;have e:=al.new (o:=.aN [.int I,.int J]) (r _ _ _ _ f).2 N;exact⟨T,_,rfl,bi.of aS,rfl,_,_,rfl,_,_,rfl,rfl,Q j I J d c g _ _ R S f e⟩
def pK(n:bB)(f:aG)(k:Int):Prop:=0<=k/\k.toNat<n.af.length/\(0<=(n.af.getD k.toNat ae).a/\(n.af.getD k.toNat ae).a<=f.length)/\(0<=(n.af.getD k.toNat ae).b/\(n.af.getD k.toNat ae).b<=f.length)/\cV (jw f (n.af.getD k.toNat ae).a)/\cV (jw f (n.af.getD k.toNat ae).b)
def zj(T:Tx P K mg A):Fn P w K mg ah 42 "voltage_of" ["network","found","k"] (eG (dE K A) (RL (RF K)) RI (RF K) pK λn f k=>fU n f k.toNat):=by
 have v:=zg w ah T;have j:=EH w ah T;refine T.Mj.fn HK eG.aC λf Y R ad s H vs Q E g h=>?_;obtain⟨G,M,N,O,n,aa,b,rfl,i,z,l,B,⟨ab,C,d,e,o,q⟩,k⟩:=h;refine⟨_,(au (bo 3 HK.nd (px K (ay K ap) aP))
   (aw (aJ (aL v g (aV (aL j g (aV ax (ay K aZ))) (aL j g (aV ax (ay K aZ)))))))),?_⟩
 try simp only[bn]
 refine br [some M,some N,some O,none] ?_;subst B;have y:n.af[b.toNat]? =some (n.af.getD b.toNat ae):=getD_some C;exists jT T z i λak J=>?_;exists bE b.toNat J i ⋯ y λu m=>?_
 try dsimp only at k
 unfold fU at k;generalize n.af.getD b.toNat ae=p at m k d e o q;exists bT G i l rfl ⟨d.1,d.2⟩ λV r ag a D=>?_;have L:=a.sub;have ac:=a.up m;exists bT r L (a.up l) rfl ⟨e.1,e.2⟩ λW t ai c F=>?_;exists bT t c.sub (c.up D) F ⟨o,q⟩ λX S aj x I=>k _ _ _ ((a.trans c).trans x) I
def pz(n:bB)(f:aG)(k:Int):Prop:=0<=k/\k.toNat<n.aW.length/\0<=n.aW.getD k.toNat 0/\n.aW.getD k.toNat 0<f.length
def zf(T:Tx P K mg A):Fn P w K mg ah 41 "current_of" ["network","found","k"] (eG (dE K A) (RL (RF K)) RI (RF K) pz λn f k=>fK n f k.toNat):=by
 refine T.Lp.fn RZ eG.aC λf r q B s H vs Q E x h=>?_;obtain⟨G,m,o,p,n,t,a,rfl,b,e,g,i,⟨v,j,z,y⟩,k⟩:=h;refine⟨_,(aw (aJ (px K ax (px K (ay K ap) aP)))),?_⟩
 try simp only[bn]
 refine br [some m,some o,some p] ?_;subst i;have d:n.aW[a.toNat]? =some (n.aW.getD a.toNat 0):=getD_some j;exists mv T e b λC l=>?_;exists bE a.toNat l b (by omega) d λu c=>?_;cases c;exists bE (n.aW.getD a.toNat 0).toNat g b (by omega) (getD_some (by omega)) λu c=>k _ _ _ (al.refl b) c
def A2(n:bB)(a:ao)(f:aG):Prop:=a.length=n.diodes.length/\∀d,d∈n.diodes->pK n f d/\pz n f d/\cV (fU n f d.toNat)/\cV (fK n f d.toNat)/\cV (n.af.getD d.toNat ae).q
def Pu(T:Tx P K mg A):Fn P w K mg ah 43 "diodes_hold" ["network","states","found"] (eG (dE K A) (RT K RI) (RL (RF K)) RB A2 kX):=by
 have X:=qf w ah T;have aq:=zj w ah T;have ao:=zf w ah T;refine T.Lr.fn Ah eG.aC λf aX aU a2 s H vs Q E y h=>?_;obtain⟨G,aj,ak,an,n,r,a,rfl,R,aa,aB,aD,⟨aE,aF⟩,k⟩:=h
 refine⟨_,(au (dY VJ rfl (E3 (K:=K) (by rfl) T.uk (aV (ay K ap) ax)) (lp (K:=K) (n:=2) rfl (f_ (bU 3 Ah.nd) (f_ (bU 4 Ah.nd) lq)))
    (au (a_ ((nO (bg cp bP az) (nP (d8 (aL X y (aV (aY T.mn) (aL ao y (bZ ap aP aZ)))))))).pt
    (aw (aJ ic))
    bx)
   (aw (a_ ((nO (bg cp bP az) (nP (d8 (aL X y (aV (aL aq y (bZ ap aP aZ)) (ay K (px K (ay K ap) aZ)))))))).pt
    (aw (aJ ic))
    bx))))
   (aw (aJ ic))),?_⟩
 try simp only[bn]
 refine br [some aj,some ak,some an,none,none] ?_;have av:cV am:=FB.zero.sz;exists C7 ?_;exists pU T aa R λa4 aK=>?_;exists CU (G:=G) (λj B v t=>al H G v t/\(∃S V:b9,B=[some aj,some ak,some an,S,V])/\((n.diodes.zip r).take j).all (km n a)=true) aK aB R aE ⟨al.refl R,⟨none,none,rfl⟩,rfl⟩ (λj B v t q=>⟨q.1.gs,q.1.sub⟩) ?_ ?_
 ·rintro j d b B v t aW C ac aG ⟨e,⟨S,V,rfl⟩,x⟩ as;have l:=e.trans as;have ai:=l.sub;have L:=l.up aa;have ab:=l.up aD;obtain⟨O,aN,aO,aQ,aR⟩:=aF d (Vf ac);have ad:(n.diodes.zip r)[j]? =some (d,b):=by rw[List.getElem?_zip_eq_some];exact⟨ac,aG⟩
  have ag:km n a (d,b)=false->kX n r a=false:=λq=>by unfold kX;rw[List.all_eq_false];exact⟨(d,b),Vf ad,by rw[q];decide⟩
  have W:km n a (d,b)=true->((n.diodes.zip r).take (j+1)).all (km n a)=true:=λq=>by rw[VU,ad,Xs,x];simp[q]
  have a1:∀(F i:Hp)(Y:Bool),al H G F i->(b=0->above (fU n a d.toNat) (n.af.getD d.toNat ae).q=Y)->km n a (d,b)= !(decide (b=0)&&Y)->True:=λ_ _ _ _ _ _=>trivial;have a0:=O.1;walk_at "go";by_cases c:b=1
  ·refine bv c ?_;exists gU C ai L ab rfl aN λF i aS m M=>?_;exists bT i m.sub (T.mF i) M ⟨av,aQ⟩ λar D aT J N=>?_;cases N;have p:=(l.trans m).trans J;walk_at "go";cases g:above am (fK n a d.toNat) with
   |true=>have I:above (0,1) (fK n a d.toNat)=true:=g;rw[Vh I];exists k _ _ _ p ?_;rw[ag (by unfold km;simp[c,g])];rfl
   |false=>have I:above (0,1) (fK n a d.toNat)=false:=g;rw[Vg (by rw[I];decide)];walk_at "go";rw[Vg (rH (show ¬b=0 by lia)),Vg ∅];exists⟨D,p,⟨_,_,rfl⟩,W (by unfold km;simp[c,g])⟩
  ·rw[Vg (rH c),Vg ∅];walk_at "go";by_cases o:b=0
   ·refine bv o ?_;exists gU C ai L ab rfl O λF i aS m M=>?_;have z:=m.sub;have aA:=m.up L;exists jT T aA z λa5 aM=>?_;exists bE d.toNat aM z ⋯ (getD_some (d:=ae) O.2.1) λu aH=>?_;exists ja T aH z λa3 aI=>?_;exists bT i z M aI ⟨aO,aR⟩ λar D aT J N=>?_;cases N;have p:=(l.trans m).trans J;walk_at "go";cases g:above (fU n a d.toNat) (n.af.getD d.toNat ae).q with
    |true=>exists k _ _ _ p ?_;rw[ag (by unfold km;simp[-List.getD_eq_getElem?_getD,o,c,g])];rfl
    |false=>exists⟨D,p,⟨_,_,rfl⟩,W (by unfold km;simp[-List.getD_eq_getElem?_getD,o,c,g])⟩
   ·rw[Vg (rH o),Vg ∅];exists⟨C,l,⟨_,_,rfl⟩,W (by unfold km;simp[o,c])⟩
 ·rintro B v t ⟨e,⟨S,V,rfl⟩,x⟩;exists k _ _ _ e ?_;have:kX n r a=true:=by
   unfold kX;rw[VV (by rw[List.length_zip];lia)] at x;exact x
  rw[this];rfl
def kg(K:Frag):Rl (Fr×Fr):=λH v x=>∃p a b,v=.ref p/\bi K H p [a,b]/\RF K H a x.1/\RF K H b x.2
instance {K:Frag}:Mo (kg K):=⟨λs ⟨p,a,b,e,h,c,d⟩=>⟨p,a,b,e,bi.aF s h,Mo.mo s c,Mo.mo s d⟩⟩
abbrev ot(K:Frag):Rl c7:=RL (RO (kg K))
structure jm where
 net:bB
 rule:Int
 aj:Fr
 d:Addr
structure qR(K:Frag)(A:bV)(H:Hp)(fs:cK)(p:jm):Prop where
 network:Fl fs "network" (dE K A H) p.net
 rule:Fl fs "rule" (RI H) p.rule
 aj:Fl fs "pace" (RF K H) p.aj
 FH:fs.lookup ("ready":Str)=some (V.ref p.d)
 DO:fs.lookup ("solved":Str)=none
 yS:fs.lookup ("first_moment":Str)=none
def kO(K:Frag)(A:bV):Rl jm:=λH v p=>∃x b a,v=.ref x/\H x=some (.aA A.gE b a)/\qR K A H a p
def qR.aF{K:Frag}{A:bV}{H b:Hp}{c:cK}{p:jm}(s:aB H b)(h:qR K A H c p):qR K A b c p:=⟨h.network.imp λ_ a=>Mo.mo s a,h.rule,h.aj.imp λ_ a=>Mo.mo s a,h.FH,h.DO,h.yS⟩
instance {K:Frag} {A:bV}:Mo (kO K A):=⟨λs ⟨x,a,b,e,h,q⟩=>⟨x,a,b,e,s _ _ h,q.aF s⟩⟩
section
variable{G H:Hp}{v:V}{p:jm}{R:V->Prop}
def rR(T:Tx P K mg A)(h:kO K A G v p)(s:aB G H)(k:∀w,dE K A G w p.net->R w):d_ K v "network" H R:=by obtain⟨x,a,b,rfl,d,q⟩:=h;obtain⟨w,e,c⟩:=q.network;exact⟨x,_,a,b,_,rfl,s _ _ d,T.lc,T.DV,e,k w c⟩
def x_(T:Tx P K mg A)(h:kO K A G v p)(s:aB G H)(k:∀w,RF K G w p.aj->R w):d_ K v "pace" H R:=by obtain⟨x,a,b,rfl,d,q⟩:=h;obtain⟨w,e,c⟩:=q.aj;exact⟨x,_,a,b,_,rfl,s _ _ d,T.lc,T.DW,e,k w c⟩
def Cr(T:Tx P K mg A)(h:kO K A G v p)(s:aB G H)(k:R (.int p.rule)):d_ K v "rule" H R:=by obtain⟨x,a,b,rfl,c,q⟩:=h;obtain⟨w,e,rfl⟩:=q.rule;exact⟨x,_,a,b,_,rfl,s _ _ c,T.lc,T.DY,e,k⟩
def uL(T:Tx P K mg A)(h:kO K A G v p)(s:aB G H)(k:R (.ref p.d)):d_ K v "ready" H R:=by obtain⟨x,a,b,rfl,c,q⟩:=h;exact⟨x,_,a,b,_,rfl,s _ _ c,T.lc,T.DX,q.FH,k⟩
end
def kM(kept:c7)(k:Nat):Prop:=∃y,kept[k]? =some (some y)
def NQ{kept:c7}{k:Nat}{y:Fr×Fr}(h:kept[k]? =some (some y)):bY kept k=y:=by unfold bY;rw[Vd,h];rfl
def uU{G H:Hp}{v:V}{x:Fr×Fr}{Q:VK}{i:Int}(h:kg K G v x)(s:aB G H)(f:i=0\/i=1)(k:∀w,RF K G w (if i=0 then x.1 else x.2)->Q w H):iC K v (.int i) H Q:=by
 obtain⟨p,a,b,rfl,c,d,e⟩:=h;rcases f with rfl|rfl
 ·exact .inr ⟨p,_,0,_,rfl,rfl,bi.aF s c,rfl,k a d⟩
 ·exact .inr ⟨p,_,1,_,rfl,rfl,bi.aF s c,rfl,k b e⟩
def r_{G H:Hp}{v:V}{kept:c7}{Q:VK}{i:Int}(h:ot K G v kept)(s:aB G H)(d:0<=i)(b:kM kept i.toNat)(k:∀w,kg K G w (bY kept i.toNat)->Q w H):iC K v (.int i) H Q:=by obtain⟨y,a⟩:=b;refine bE i.toNat h s ⋯ a λw c=>k w ?_;rw[NQ a];exact c.2
def xn(L:jm)(k:Int)(kept:c7):Prop:=(0<=k/\k.toNat<L.net.af.length/\k.toNat<L.net.eO.length/\kM kept k.toNat)/\(cV L.aj/\cV (L.rule,1))/\
 ((L.net.af.getD k.toNat ae).kind=1->cV (L.net.af.getD k.toNat ae).q/\cV (bY kept k.toNat).1/\cV (bY kept k.toNat).2/\cV (bI (L.net.af.getD k.toNat ae).q (bY kept k.toNat).1)/\cV (bI L.aj (bI (L.net.af.getD k.toNat ae).q (bY kept k.toNat).1))/\cV (bI (L.rule,1) (bY kept k.toNat).2))/\
 ((L.net.af.getD k.toNat ae).kind≠1->cV (bY kept k.toNat).1/\(∀x,x∈L.net.eO.getD k.toNat []->0<=x.1/\kM kept x.1.toNat/\cV x.2/\cV (bY kept x.1.toNat).2/\cV (bI x.2 (bY kept x.1.toNat).2))/\(∀j,cV (jU kept ((L.net.eO.getD k.toNat []).take j)))/\cV (bI L.aj (jU kept (L.net.eO.getD k.toNat [])))/\cV (bI (L.rule,1) (bY kept k.toNat).1))
def MY{kept:c7}{l:List (Int×Fr)}{j:Nat}{x:Int×Fr}(h:l[j]? =some x):jU kept (l.take (j+1))=plus (jU kept (l.take j)) (bI x.2 (bY kept x.1.toNat).2):=by unfold jU;rw[VU,h,Wl];rfl
def P4(T:Tx P K mg A):Fn P w K mg ah 42 "remembered" ["laws","k","kept"] (eG (kO K A) RI (ot K) (RF K) xn λL k kept=>iX L.net L.rule L.aj kept k.toNat):=by
 have aM:=zh w ah T;have N:=qg w ah T;refine T.L7.fn mS eG.aC λf bD bC bG s H vs Q E v h=>?_;obtain⟨G,a2,bp,a3,L,i,kept,rfl,d,R,bb,S,⟨⟨av,bc,bd,as⟩,⟨sp,a0⟩,aR,aS⟩,k⟩:=h;refine⟨_,(au (bo 3 mS.nd (px K (ay K (ay K ap)) ax))
   (au (a_ (bg cp (ay K aZ) (aY T.pN))
    (au (bo 4 mS.nd (aL N v (aV (ay K aZ) (px K (px K aP ax) az))))
   (aw (bo 5 mS.nd (px K (px K aP ax) az))))
    (au (bo 4 mS.nd (aY T.mn))
   (au (dY VJ rfl (gY (K:=K) (px K (ay K (ay K ap)) ax)) (lp (K:=K) (n:=2) rfl (f_ (bU 6 mS.nd) (f_ (bU 7 mS.nd) lq)))
    (aw (bo 4 mS.nd (aL aM v (aV bP (aL N v (aV gZ (px K (px K aP eF) az))))))))
   (aw (bo 5 mS.nd (px K (px K aP ax) az))))))
   (aw (aJ (aL aM v (aV (aL N v (aV (ay K ap) bP)) (aL N v (aV (dC (aV (ay K ap) az)) da)))))))),?_⟩
 try simp only[bn]
 refine br [some a2,some bp,some a3,none,none,none,none,none] ?_;subst bb
 try dsimp only at k
 unfold iX at k;have ba:L.net.af[i.toNat]? =some (L.net.af.getD i.toNat ae):=getD_some bc;have bF:cV am:=FB.zero.sz;exists rR T R d λbI bj=>?_;exists jT T bj d λbJ bk=>?_;exists bE i.toNat bk d ⋯ ba λu aT=>?_;generalize L.net.af.getD i.toNat ae=p at aT k aR aS;walk_at "go";by_cases c:p.kind=1
 ·refine bv c ?_;obtain⟨aF,Y,I,aa,aG,bm⟩:=aR c;rw[Vh c] at k;exists ja T aT d λbq aB=>?_;exists r_ S d av as λbs aD=>?_;exists uU aD d (.inl rfl) λbt X=>?_;rw[Vh rfl] at X;exists bT G d aB X ⟨aF,Y⟩ λaO B ab a be=>?_;have l:=a.sub;have C:=a.up R;exists r_ (a.up S) l av as λbu aE=>?_;exists uU aE l (.inr rfl) λa4 y=>?_;rw[Vg ∅] at y;exists x_ T C l λa5 t=>?_;exists bT B l t be ⟨sp,aa⟩ λO q ac g bh=>?_;have M:=g.sub;have ar:=g.up C;exists Cr T ar M ?_;exists⟨dh,λm aA=>?_⟩;have b:=al.new (o:=.aN [.int L.rule,.int 1]) M aA;have J:RF K (ai q m (.aN [.int L.rule,.int 1])) (.ref m) (L.rule,1):=RF.new (x:=(L.rule,1));generalize ai O m (.aN [.int L.rule,.int 1])=a8 at b ⊢;generalize ai q m (.aN [.int L.rule,.int 1])=ak at b J;exists bT ak b.sub J (b.up (g.up y)) ⟨a0,I⟩ λa9 an a1 r D=>?_;exists bT an r.sub (r.up (b.up bh)) D ⟨aG,bm⟩ λa' a7 aK aq F=>k _ _ _ ((((a.trans g).trans b).trans r).trans aq) F
 ·refine bf c ?_;obtain⟨aF,Y,I,aa,aG⟩:=aS c;rw[Vg c] at k;have aQ:L.net.eO[i.toNat]? =some (L.net.eO.getD i.toNat []):=getD_some bd;generalize L.net.eO.getD i.toNat []=aW at aQ Y I aa k;exists rR T R d λbs aD=>?_;exists Ct T aD d λbt X=>?_;exists bE i.toNat X d ⋯ aQ λbu aE=>?_;exists CT (G:=G) (λj ag ao z=>al H G ao z/\∃(ad:V)(ab ac aI:b9),RF K z ad (jU kept (aW.take j))/\ag=[some a2,some (.int i),some a3,some u,some ad,ab,ac,aI]) aE d ⟨al.refl d,_,none,none,none,T.mF G,rfl⟩ (λj ag ao z a6=>⟨a6.1.gs,a6.1.sub⟩) ?_ ?_
  ·rintro j x bq ag ao z aU aB ⟨e,ad,ab,ac,aI,W,rfl⟩;have aH:=e.sub;obtain⟨bw,bx,bz,bA,bB⟩:=Y x (Vf aU);exists r_ (e.up S) aH bw bx λa4 y=>?_;exists uU y aH (.inr rfl) λa5 t=>?_;rw[Vg ∅] at t;exists bT z aH aB t ⟨bz,bA⟩ λaO B a1 a D=>?_;exists bT B a.sub (a.up W) D ⟨I j,bB⟩ λO q aK g F=>?_;exists⟨q,(e.trans a).trans g,aK,_,_,_,?_,rfl⟩;rw[MY aU];exact F
  ·rintro ag aO B ⟨a,ad,ab,ac,aI,W,rfl⟩;rw[VV (Vm _)] at W;have l:=a.sub;have C:=a.up R;have aX:=I aW.length;rw[VV (Vm _)] at aX;exists r_ (a.up S) l av as λa4 y=>?_;exists uU y l (.inl rfl) λa5 t=>?_;rw[Vh rfl] at t;exists x_ T C l λbK bl=>?_;exists bT B l bl W ⟨sp,aX⟩ λO q a1 g D=>?_;have M:=g.sub;have ar:=g.up C;exists Cr T ar M ?_;exists⟨dh,λm aA=>?_⟩;have b:=al.new (o:=.aN [.int L.rule,.int 1]) M aA;have J:RF K (ai q m (.aN [.int L.rule,.int 1])) (.ref m) (L.rule,1):=RF.new (x:=(L.rule,1));generalize ai O m (.aN [.int L.rule,.int 1])=a8 at b ⊢;generalize ai q m (.aN [.int L.rule,.int 1])=ak at b J;exists bT ak b.sub J (b.up (g.up t)) ⟨a0,aF⟩ λa9 an aK r F=>?_;exists bT an r.sub (r.up (b.up D)) F ⟨aa,aG⟩ λa' a7 bH aq bi=>k _ _ _ ((((a.trans g).trans b).trans r).trans aq) bi
inductive nU{α β δ ε γ:Type}(r1:Rl α)(r2:Rl β)(r3:Rl δ)(r4:Rl ε)(rr:Rl γ)(pre:α->β->δ->ε->Prop)(f:α->β->δ->ε->γ)(vs:List V)(H:Hp)(Q:VK)(E:XK):Prop
 |mk (G v1 v2 v3 v4 x y z u) (_:vs=[v1,v2,v3,v4]) (_:aB G H) (_:r1 G v1 x) (_:r2 G v2 y) (_:r3 G v3 z) (_:r4 G v4 u) (_:pre x y z u) (_:∀Z G' v,al H G Z G'->rr G' v (f x y z u)->Q v Z):nU r1 r2 r3 r4 rr pre f vs H Q E
def nU.aC{e β g h i:Type}{k:Rl e}{l:Rl β}{m:Rl g}{n:Rl h}{rr:Rl i}{j:e->β->g->h->Prop}{f:e->β->g->h->i}{a b c d:Str}:∀vs H Q E,nU k l m n rr j f vs H Q E->vs.length=[a,b,c,d].length:=by rintro vs H Q E ⟨_,_,_,_,_,_,_,_,_,rfl,_⟩;rfl
def C3{b β c d r:Type}{n:Rl b}{o:Rl β}{p:Rl c}{q:Rl d}{rr:Rl r}{m:b->β->c->d->Prop}{f:b->β->c->d->r}{e g h i:V}{x:b}{y:β}{a:c}{u:d}{H:Hp}{Q:VK}{E:XK}(G:Hp)(s:aB G H)(t:n G e x)(w:o G g y)(z:p G h a)(A:q G i u)(B:m x y a u)
  (k:∀l j v,al H G l j->rr j v (f x y a u)->Q v l):nU n o p q rr m f [e,g,h,i] H Q E:=⟨G,e,g,h,i,x,y,a,u,rfl,s,t,w,z,A,B,k⟩
def xo(L:jm)(a:ao)(time:Fr)(kept:c7):Prop:=im L.net/\a.length=L.net.diodes.length/\(FB 60 time/\0<time.2)/\L.net.waves.length=L.net.af.length/\
 (∀k,k<L.net.af.length->dg (L.net.af.getD k ae).kind=true->∃w,L.net.waves[k]? =some (some w)/\fh w)/\∀k:Nat,k<L.net.af.length->cT (L.net.af.getD k ae).kind=true->xn L k kept
def Ru{n:bB}{rule:Int}{aj time:Fr}{kept:c7}{a:aG}{k:Nat}:(ig n rule aj time kept a k).length=a.length:=by
 unfold ig;split
 ·simp
 ·split<;>simp
def P5(T:Tx P K mg A):Fn P w K mg ah 44 "right_sides" ["laws","states","time","kept"] (nU (kO K A) (RT K RI) (RF K) (ot K) (RL (RF K)) xo λL I time kept=>gq L.net L.rule L.aj I time kept):=by
 have bV:=Ez w ah T;have bW:=EC w ah T;have bX:=ED w ah T;have b1:=Qa w ah T;have bY:=vM w ah T;have b0:=P4 w ah T;refine T.L8.fn oW nU.aC λf cN cK cU s H vs Q E W h=>?_;obtain⟨G,ar,as,av,aA,L,I,time,kept,rfl,bN,bt,b_,aI,b',⟨N,ck,⟨cm,cn⟩,cS,cC,ch⟩,k⟩:=h;refine⟨_,(au (bo 4 oW.nd (ay K ap))
   (au (bo 5 oW.nd (aL bV W (a9 bP)))
   (au (dY VJ rfl (sN (K:=K) (by rfl) T.rA (a9 (ay K bP))) (lp (K:=K) (n:=2) rfl (f_ (bU 6 oW.nd) (f_ (bU 7 oW.nd) lq)))
    (aw (a_ (d8 (aL bW W (a9 (ay K gZ))))
    (aw (nN (aL b1 W (aV (px K (ay K bP) eF) aP)) (nI da (px K (ay K bP) eF) nT (λ_=>rfl))))
    (aw (a_ (d8 (aL bX W (a9 (ay K gZ))))
    (aw (nN (aL bY W (a9 (aL b0 W (bZ ap eF aZ)))) (nI da (px K (ay K bP) eF) nT (λ_=>rfl))))
    bx)))))
   (au (dY VJ rfl (E3 (K:=K) (by rfl) T.uk (aV (ay K bP) ax)) (lp (K:=K) (n:=2) rfl (f_ (bU 6 oW.nd) (f_ (bU 8 oW.nd) lq)))
    (aw (a_ (bg cp vW az)
    (aw (nN (ay K (px K (ay K bP) eF)) (nI da (px K (ay K bP) eF) nT (λ_=>rfl))))
    bx)))
   (aw (aJ da)))))),?_⟩
 try simp only[bn]
 refine br [some ar,some as,some av,some aA,none,none,none,none,none] ?_;have cQ:=N.sz;have cP:=N.nodes
 try dsimp only at k
 exists rR T bt bN λaD z=>?_;exists⟨G,aD,L.net,rfl,bN,z,⟨⋯,⋯⟩,λcL a5 b cJ a' bb ca cb ce=>?_⟩;have bL:=a'.sub;have cu:=a'.up z;exists jT T cu bL λc1 cA=>?_;walk_at "go";have bJ:∀j,((List.range j).foldl (ig L.net L.rule L.aj time kept) (List.replicate L.net.size.toNat am)).length=L.net.size.toNat:=by
  intro j;induction j with
  |zero=>simp
  |succ j bh=>rw[V2,Wl];show(ig _ _ _ _ _ _ _).length=_;rw[Ru,bh]
 refine r9 (G:=a5) (λj B v l=>al H G v l/\aB a5 l/\∃(ys:aQ)(Y aa J:b9),v b=some (.aq ys)/\l b=none/\Paired (RF K l) ys ((List.range j).foldl (ig L.net L.rule L.aj time kept) (List.replicate L.net.size.toNat am))/\B=[some ar,some as,some av,some aA,some aD,some (.ref b),Y,aa,J]) cA bL ⟨a',aB.refl _,cJ,none,none,none,ca,cb,ce,rfl⟩ (λj B v l a=>⟨a.2.1,a.1.sub⟩) ?_ ?_
 ·rintro j p cI B v l b2 ab bz cw ⟨e,bk,ys,Y,aa,J,aX,bd,aO,rfl⟩ O;have a7:=e.trans O;have a1:=a7.sub;have bD:=a7.up z;have aN:j<L.net.af.length:=(Vj.mp bz).1;have R:L.net.af.getD j ae=p:=by rw[Vd,bz];rfl
  have bH:=O.hs _ _ aX;have cc:=O.fr b bd (by rw[aX];exact λa=>nomatch a);have bA:=Paired.imp (λ_ _ a=>Mo.mo (r:=RF K) O.gs a) aO;have S:=VP bA;rw[bJ j] at S;have bC:(p.kind≠3)->L.net.aW[j]? =some (L.net.aW.getD j 0)/\0<=L.net.aW.getD j 0/\L.net.aW.getD j 0<L.net.size:=λaI=>by have:=N.pf j aN (by rw[R];exact aI);exact⟨getD_some (by rw[N.o_];exact aN),⋯,⋯⟩
  have bK:∀(C i:Hp)(a3:V)(x:Fr),al H G C i->aB ab i->C b=some (.aq ys)->i b=none->Paired (RF K i) ys ((List.range j).foldl (ig L.net L.rule L.aj time kept) (List.replicate L.net.size.toNat am))->RF K i a3 x->p.kind≠3->
    (ig L.net L.rule L.aj time kept ((List.range j).foldl (ig L.net L.rule L.aj time kept) (List.replicate L.net.size.toNat am)) j=((List.range j).foldl (ig L.net L.rule L.aj time kept) (List.replicate L.net.size.toNat am)).set (L.net.aW.getD j 0).toNat x)->
    ∃aF,al H G (ai C b (.aq (ys.set (L.net.aW.getD j 0).toNat a3))) aF/\aB a5 aF/\∃(aE:aQ)(bl bm bp:b9),ai C b (.aq (ys.set (L.net.aW.getD j 0).toNat a3)) b=some (.aq aE)/\aF b=none/\Paired (RF K aF) aE ((List.range (j+1)).foldl (ig L.net L.rule L.aj time kept) (List.replicate L.net.size.toNat am))/\[some ar,some as,some av,some aA,some aD,some (.ref b),some (.int (j:Nat)),some cI,J]=[some ar,some as,some av,some aA,some aD,some (.ref b),bl,bm,bp]:=by
   intro C i a3 x g o F y D cE aI cl;refine⟨i,g.eV bb y,bk.trans (O.gs.trans o),_,_,_,_,aS,y,?_,rfl⟩;rw[V2,Wl];show Paired _ _ (ig _ _ _ _ _ _ j);rw[cl];exact Paired.set cE _ D
  exists dG ab a1 rfl trivial λC i cV g co=>?_;cases co;have t:=a7.trans g;have o:=t.sub;have aU:=t.up z;have F:=g.hs _ _ bH;have y:=g.fr b cc (by rw[bH];exact λa=>nomatch a);have D:=Paired.imp (λ_ _ a=>Mo.mo (r:=RF K) g.gs a) bA;have cR:=g.up cw;walk_at "go";cases M:dg p.kind with
  |true=>
   refine jV ?_;obtain⟨bQ,bG,cz⟩:=cC j aN (by rw[R];exact M);have ag:p.kind≠3:=λq=>by rw[q] at M;exact absurd M ∅
   obtain⟨ba,b6,b7⟩:=bC ag;exists MR T aU o λc3 cD=>?_;exists bE j cD o rfl bG λcY ct=>?_;exists bT i o ct.2 (t.up aI) ⟨cz,cm,cn⟩ λbq aH bO m be=>?_;have u:=t.trans m;have a2:=u.sub;have bF:=u.up z;have X:=m.hs _ _ F;have aM:=m.fr b y (by rw[F];exact λa=>nomatch a);have aT:=Paired.imp (λ_ _ a=>Mo.mo (r:=RF K) m.gs a) D;exists mv T bF a2 λws an=>?_;exists bE j an a2 rfl ba λus ak=>?_;cases ak;refine nq (L.net.aW.getD j 0).toNat X ⋯ (by rw[S];lia) ?_;exists bK bq aH bO (valueAt bQ time) u (g.gs.trans m.gs) X aM aT be ag ?_;have b8:L.net.waves.getD j none=some bQ:=by rw[Vd,bG];rfl
   unfold ig;rw[R,Vh M,b8];rfl
  |false=>
   exists dG i o rfl trivial λbq aH bO m be=>?_;cases be;have u:=t.trans m;have a2:=u.sub;have bF:=u.up z;have X:=m.hs _ _ F;have aM:=m.fr b y (by rw[F];exact λa=>nomatch a);have aT:=Paired.imp (λ_ _ a=>Mo.mo (r:=RF K) m.gs a) D;walk_at "go";cases ac:cT p.kind with
   |true=>
    refine jV ?_;have ag:p.kind≠3:=λq=>by rw[q] at ac;exact absurd ac ∅
    obtain⟨ba,b6,b7⟩:=bC ag;have cg:=ch j aN (by rw[R];exact ac);exists gU aH a2 (u.up bt) rfl (u.up b') cg λcM bR cW bs cq=>?_;exists dG bR bs.sub cq trivial λb3 bS cH b5 cr=>?_;have ad:=bs.trans b5;have a8:=u.trans ad;have bM:=a8.sub;have cv:=a8.up z;have bI:=ad.hs _ _ X;have cd:=ad.fr b aM (by rw[X];exact λa=>nomatch a);have cf:=Paired.imp (λ_ _ a=>Mo.mo (r:=RF K) ad.gs a) aT;exists mv T cv bM λws an=>?_;exists bE j an bM rfl ba λus ak=>?_;cases ak;refine nq (L.net.aW.getD j 0).toNat bI ⋯ (by rw[S];lia) ?_;exists bK b3 bS cH _ a8 ((g.gs.trans m.gs).trans ad.gs) bI cd cf cr ag ?_;unfold ig;rw[R,Vg (by rw[M];decide),Vh ac,VE]
   |false=>exists⟨aH,u,bk.trans ((O.gs.trans g.gs).trans m.gs),ys,_,_,_,X,aM,?_,rfl⟩;rw[V2,Wl];show Paired _ _ (ig _ _ _ _ _ _ j);unfold ig;rw[R,Vg (by rw[M];decide),Vg (by rw[ac];decide)];exact aT
 ·rintro B b2 ab ⟨e,bk,ys,Y,aa,J,aX,bd,aO,rfl⟩;have a1:=e.sub;have bD:=e.up z;exists C7 ?_;exists pU T bD a1 λc0 cy=>?_;walk_at "go";have cG:∀(a4:List (Int×Int))(a0:aG),(a4.foldl (kn L.net) a0).length=a0.length:=by
   intro a4;induction a4 with
   |nil=>intro a0;rfl
   |cons x a4 bh=>intro a0;rw[V3,bh];unfold kn;split<;>simp
  generalize bB:(List.range L.net.af.length).foldl (ig L.net L.rule L.aj time kept) (List.replicate L.net.size.toNat am)=ao at aO;have ci:ao.length=L.net.size.toNat:=by rw[<-bB];exact bJ _
  refine CU (G:=ab) (λj B v l=>al H G v l/\aB ab l/\∃(ys:aQ)(Y aa J:b9),v b=some (.aq ys)/\l b=none/\Paired (RF K l) ys (((L.net.diodes.zip I).take j).foldl (kn L.net) ao)/\B=[some ar,some as,some av,some aA,some aD,some (.ref b),Y,aa,J]) cy (e.up b_) a1 ck ⟨e,aB.refl _,ys,Y,aa,J,aX,bd,aO,rfl⟩ (λj B v l a=>⟨a.2.1,a.1.sub⟩) ?_ ?_
  ·rintro j d bj B v l C i bu cj ⟨a6,bi,aE,bl,bm,bp,aY,aK,aR,rfl⟩ g;have t:=a6.trans g;have o:=t.sub;have aU:=t.up z;have F:=g.hs _ _ aY;have y:=g.fr b aK (by rw[aY];exact λa=>nomatch a);have D:=Paired.imp (λ_ _ a=>Mo.mo (r:=RF K) g.gs a) aR;have S:=VP D;rw[cG,ci] at S;have cF:(L.net.diodes.zip I)[j]? =some (d,bj):=by rw[List.getElem?_zip_eq_some];exact⟨bu,cj⟩
   obtain⟨d0,cO,b4⟩:=N.My d (Vf bu);have bw:((L.net.diodes.zip I).take (j+1)).foldl (kn L.net) ao=kn L.net (((L.net.diodes.zip I).take j).foldl (kn L.net) ao) (d,bj):=by rw[VU,cF,Wl];rfl
   walk_at "go";by_cases c:bj=1
   ·refine bv c ?_;have bc:d.toNat<L.net.af.length:=by lia
    have sp:=N.pf d.toNat bc (by rw[b4];decide);exists jT T aU o λc2 cB=>?_;exists bE d.toNat cB o ⋯ (getD_some (d:=ae) bc) λcX cs=>?_;exists ja T cs o λcZ cx=>?_;exists mv T aU o λws an=>?_;exists bE d.toNat an o ⋯ (getD_some (d:=0) (by rw[N.o_];exact bc)) λus ak=>?_;cases ak;refine nq (L.net.aW.getD d.toNat 0).toNat F ⋯ (by rw[S];lia) ?_;exists⟨i,t.eV bb y,bi.trans g.gs,_,_,_,_,aS,y,?_,rfl⟩;rw[bw];unfold kn;rw[Vh c];exact Paired.set cx _ D
   ·refine bf c ?_;exists⟨i,t,bi.trans g.gs,aE,_,_,_,F,y,?_,rfl⟩;rw[bw];unfold kn;rw[Vg c];exact D
  ·rintro B C i ⟨a6,bi,aE,bl,bm,bp,aY,aK,aR,rfl⟩;exists k _ _ _ (a6.gr bb aY aK) ?_;rw[VV (by rw[List.length_zip];lia)] at aR;have:gq L.net L.rule L.aj I time kept=(L.net.diodes.zip I).foldl (kn L.net) ao:=by unfold gq;rw[bB]
   rw[this];exact RL.new aK aR
structure iJ(C x dx:Addr)(H G H1 G1:Hp)(fs:cK)(n:Nat):Prop where
 e:bG x H G H1 G1
 hx:H1 x=some (.aA C dx fs)
 g:G1 x=none
 l:fs.length<=n
def iJ.start{C x a:Addr}{H G:Hp}(s:aB G H)(c:H x=some (.aA C a []))(b:G x=none):iJ C x a H G H G [] 0:=⟨⟨λ_ _ _ h=>h,aB.refl _,s,λ_ h _=>h⟩,c,b,by simp⟩
def iJ.put{C x a:Addr}{H G d c:Hp}{b:cK}{n:Nat}(o:iJ C x a H G d c b n)(f:Str)(v:V):iJ C x a H G (ai d x (.aA C a (aD f v b))) c (aD f v b) (n+1):=
 ⟨o.e.iW o.hx o.g,aS,o.g,iB o.l⟩
def iJ.then{C x f:Addr}{H G c a d b:Hp}{h:cK}{n:Nat}(o:iJ C x f H G c a h n)(e:al c a d b):iJ C x f H G d b h n:=
 ⟨o.e.then o.hx e,e.hs _ _ o.hx,e.fr x o.g (by rw[o.hx];exact λi=>nomatch i),o.l⟩
def t_(K:Frag):Hp->aQ->i7->Prop:=λG us p=>∃a b,us=[a,b]/\RS G a p.states/\RL (RF K) G b p.aE
def O6(T:Tx P K mg A):kL P w K mg ah 41 A.ml ["self","states","found"] (oZ A.ml (t_ K) (pE K A)):=by
 refine T.KW.fn RE (by rintro vs H Q E ⟨_,_,_,_,_,rfl,_,_,_,⟨_,_,rfl,_⟩,_⟩;rfl) λf u t B s H vs Q E z h=>?_;obtain⟨G,x,y,_,p,rfl,q,j,o,⟨d,i,rfl,m,n⟩,k⟩:=h;obtain⟨r,ev⟩:∃v,v=V.ref x:=⟨_,rfl⟩
 rw[<-ev];refine⟨_,(au (cY K ap ax)
   (aw (cY K ap aP))),?_⟩
 try simp only[bn]
 refine br [some r,some d,some i] ?_;subst ev;have a:=iJ.start q o j;exists cX a.hx T.vc T.D0 (Vl a.l ∅) ?_;have b:=a.put "states" d;exists cX b.hx T.vc T.DZ (Vl b.l ∅) ?_;have c:=b.put "found" i;exists k _ _ _ c.e c.hx c.g ⟨⟨d,?_,m⟩,⟨i,?_,n⟩⟩
 ·walk_at "lk"
 ·walk_at "lk"
inductive Az(K:Frag)(A:bV)(vs:List V)(H:Hp)(Q:VK)(E:XK):Prop
 |mk (G x dx v2 v4 n rule aj) (_:vs=[.ref x,v2,.int rule,v4]) (_:aB G H) (_:G x=none) (_:H x=some (.aA A.gE dx [])) (_:dE K A G v2 n) (_:RF K G v4 aj) (_:∀Z G' fs d,bG x H G Z G'->Z x=some (.aA A.gE dx fs)->G' x=none->qR K A G' fs ⟨n,rule,aj,d⟩->H d=none->Z d=some (.dT [])->G' d=none->Q .aO Z):Az K A vs H Q E
def Eu(T:Tx P K mg A):kL P w K mg ah 41 A.gE ["self","network","rule","pace"] (Az K A):=by
 refine T.KS.fn RC (by rintro vs H Q E ⟨_,_,_,_,_,_,_,_,rfl,_⟩;rfl) λf S O Y s H vs Q E X h=>?_;obtain⟨G,x,j,b,i,n,rule,aj,rfl,L,C,J,D,F,k⟩:=h;obtain⟨M,ev⟩:∃v,v=V.ref x:=⟨_,rfl⟩
 obtain⟨N,z⟩:∃v,v=V.int rule:=⟨_,rfl⟩
 rw[<-ev, <-z];refine⟨_,(au (cY K ap ax)
   (au (cY K ap aP)
   (au (cY K ap aZ)
   (aw (cY K ap Qw))))),?_⟩
 try simp only[bn]
 refine br [some M,some b,some N,some i] ?_;subst ev z;have m:=iJ.start L J C;exists cX m.hx T.lc T.DV (Vl m.l ∅) ?_;have p:=m.put "network" b;exists cX p.hx T.lc T.DY (Vl p.l ∅) ?_;have r:=p.put "rule" (.int rule);exists cX r.hx T.lc T.DW (Vl r.l ∅) ?_;have a:=r.put "pace" i;generalize W:ai (ai (ai H x (.aA A.gE j (aD "network" b []))) x (.aA A.gE j (aD "rule" (.int rule) (aD "network" b [])))) x (.aA A.gE j (aD "pace" i (aD "rule" (.int rule) (aD "network" b []))))=R at a;walk_at "go";refine λd c=>?_;have t:=a.then (al.kH (o:=.dT []) a.e.sub c)
 have B:d≠x:=λy=>by rw[y,a.hx] at c;exact nomatch c
 exists cX t.hx T.lc T.DX (Vl t.l ∅) ?_;have u:=t.put "ready" (.ref d);walk_at "go";have I:H d=none:=by
  cases q:H d with
  |none=>rfl
  |some o=>exact absurd (a.e.hs d o B q) (by rw[c];exact λy=>nomatch y)
 refine k _ _ _ d u.e u.hx u.g ⟨⟨b,?_,D⟩,⟨.int rule,?_,rfl⟩,⟨i,?_,F⟩,?_,?_,?_⟩ I ?_ (a.e.sub.free c)
 ·walk_at "lk"
 ·walk_at "lk"
 ·walk_at "lk"
 ·walk_at "lk"
 ·walk_at "lk"
  try rfl
 ·walk_at "lk"
  try rfl
 ·rw[bA B];exact aS
def AZ(laws:cv):Prop:=(laws.length<=500/\∀a∈laws,a.length=laws.length/\pH a/\∀x∈a,0<x.2/\IntMulOk x.1 (aR a/x.2))/\∃n m,fX n m (eK laws)/\n<=m/\m<=1000/\xr (eK laws)
def A_(L:jm)(a:ao):Prop:=Fd L.net L.aj a/\a∈cj L.net.diodes.length/\AZ (fm L.net L.aj a)
def iH(G H:Hp)(L:jm):Prop:=∃b:List (List cg×V),H L.d=some (.dT b)/\G L.d=none/\(b.map (·.1)).Nodup/\∀a,a∈b->∃c,c∈cj L.net.diodes.length/\a.1=c.map Sum.inl/\RO (RL (RL RI)) G a.2 (j7 L.net L.aj c)
def iH.up{G H d f:Hp}{L:jm}(h:iH G H L)(e:al H G f d):iH d f L:=by obtain⟨n,g,i,j,k⟩:=h;exact⟨n,e.hs _ _ g,e.fr _ i (by rw[g];exact λp=>nomatch p),j,λm l=>let ⟨o,a,b,c⟩:=k m l;⟨o,a,b,Mo.mo e.gs c⟩⟩
def NH{a b:ao}(h:a.map (Sum.inl:Int->cg)=b.map Sum.inl):a=b:=by
 have:Function.Injective (Sum.inl:Int->cg):=λx y q=>by cases q;rfl
 exact(List.map_inj_right this).mp h
def NZ(a:ao):(a.map (Sum.inl:Int->cg)).map kV=a.map V.int:=by rw[VS];rfl
theorem Jh:∀{a:List (List cg×V)}{k:List cg}{v:V},ij a k=some v->(k,v)∈a
 |[],k,v,h=>by simp[ij] at h
 |p::r,k,v,h=>by
  by_cases e:p.1=k
  ·rw[n6 e] at h;simp only[VC] at h;subst e h;simp
  ·rw[n4 e] at h;exact VI _ (Jh h)
inductive Ik(K:Frag)(A:bV)(vs:List V)(H:Hp)(Q:VK)(E:XK):Prop
 |mk (G v1 v2 L st) (_:vs=[v1,v2]) (_:aB G H) (_:kO K A G v1 L) (_:RS G v2 st) (_:iH G H L) (_:A_ L st) (_:∀Z G' v,bG L.d H G Z G'->iH G' Z L->RO (RL (RL RI)) G' v (j7 L.net L.aj st)->Q v Z):Ik K A vs H Q E
def Nb{b:L2.St}{H:Hp}{Q:VK}{ty td:TE}(h:ty b H λy d=>td b d λx c=>∃a o,x=.ref a/\ka c a y o/\Q (.bl (!o.isSome)) c):IK ty td b H Q:=h
def CS{b:L2.St}{H:Hp}{Q:VK}{ty td:TE}(h:td b H λx d=>ty b d λy c=>∃a v,x=.ref a/\ka c a y (some v)/\Q v c):IJ td ty b H Q:=h
def Nc{b:L2.St}{H:Hp}{c:iI}{td ty e:TE}(h:e b H λv f=>td b f λx g=>ty b g λy i=>∃a d,x=.ref a/\pC i a y v d/\c.nx b d):FT td ty e c b H:=h
def O5(T:Tx P K mg A):ik P w K mg ah 46 A.gE "solved" ["self","states"] (Ik K A):=by
 have aq:=P9 w ah T;have an:=Pw w ah T;have ao:=PL w ah T;refine T.KU.fn RD (by rintro vs H Q E ⟨_,_,_,_,_,rfl,_⟩;rfl) λf ar ag a1 s H vs Q E B h=>?_;obtain⟨G,aV,aW,L,c,rfl,m,n,av,aB,⟨ae,aF,⟨aC,aD⟩⟩,k⟩:=h;have C:=B.un;have C:(ag.deeper (envOfC "Laws.solved" (aM zV) s.heap.objs.size f ar)).units+1<cLine:=by lia
 refine⟨_,(au (a_ (Rc (Qs C ax (ay K ap)))
    (aw (Q7 C (ay K ap) ax (aL aq B (a9 (aL an B (a9 (aL ao B (bZ (ay K ap) (ay K ap) ax)))))) rfl))
    bx)
   (aw (aJ (Qv C (ay K ap) ax (λ_ _=>rfl))))),?_⟩
 try simp only[bn]
 refine br [some aV,some aW] ?_;obtain⟨e,o,M,N,y⟩:=aB;obtain⟨b,rfl,z⟩:=av;have I:H b=some (.aN ((c.map (Sum.inl:Int->cg)).map kV)):=by rw[NZ];exact m _ _ z
 exists Nb ?_;exists uL T n m ?_;refine⟨L.d,_,rfl,ka.t o I,?_⟩;walk_at "go";cases r:ij e (c.map Sum.inl) with
 |some v=>rw[Vg (by simp)];exists CS ?_;exists uL T n m ?_;exists⟨L.d,v,rfl,by rw[<-r];exact ka.t o I,?_⟩;obtain⟨a2,D,l,O⟩:=y _ (Jh r);have:=NH l;subst this;exact k _ _ _ (al.refl m).x ⟨e,o,M,N,y⟩ O
 |none=>
  rw[Vh (by rfl)];exists Nc ?_;exists rR T n m λa5 aP=>?_;exists x_ T n m λa6 aQ=>?_;exists gU G m aP aQ (RS.rt ⟨b,rfl,z⟩) ae λaX aj a3 V aK=>?_;exists dG aj V.sub aK aC λaY ak a4 W aO=>?_;exists dG ak W.sub aO aD λu am g as af=>?_;have i:=(V.trans W).trans as;have aT:=i.sub;have X:=i.up n;have ac:=i.hs _ _ o;have aa:=i.hs _ _ I;have ad:=i.fr _ M (by rw[o];exact λS=>nomatch S);exists uL T X aT ?_;have aG:(e.map (·.1)).length<=((cj L.net.diodes.length).map λs=>s.map (Sum.inl:Int->cg)).length:=by refine List.Nodup.length_le_of_subset N λx aR=>?_;obtain⟨j,p,rfl⟩:=Vz.mp aR;obtain⟨R,D,l,_⟩:=y j p;exact Vz.mpr ⟨R,D,l.symm⟩
  have aH:e.length<sizeLine:=by rw[Vn,Vn,ue] at aG;have:2^L.net.diodes.length<=2^3:=VW ∅ ae.1.dl;exact dB ⋯
  exists⟨L.d,_,rfl,pC.t ac aa aH,?_⟩;have aI:j4 e (c.map Sum.inl) g=e++[(c.map Sum.inl,g)]:=by unfold j4;rw[wS,r];rfl
  rw[aI];have F:bG L.d H G (ai u L.d (.dT (e++[(c.map Sum.inl,g)]))) am:=i.x.iW ac ad;have J:ai u L.d (.dT (e++[(c.map Sum.inl,g)])) L.d=some (.dT (e++[(c.map Sum.inl,g)])):=aS;have aA:b≠L.d:=λS=>by rw[S,M] at z;exact nomatch z
  have ab:ai u L.d (.dT (e++[(c.map Sum.inl,g)])) b=some (.aN ((c.map (Sum.inl:Int->cg)).map kV)):=by rw[bA aA];exact aa
  generalize ai u L.d (.dT (e++[(c.map Sum.inl,g)]))=aZ at F J ab;have aU:=F.sub;exists CS ?_;exists uL T X aU ?_;walk_at "go";have aE:ij (e++[(c.map Sum.inl,g)]) (c.map Sum.inl)=some g:=by rw[Ji _ _ _ _ r,Vh rfl]
  refine⟨L.d,g,rfl,by rw[<-aE];exact ka.t J ab,?_⟩;refine k _ _ _ F ⟨_,J,ad,?_,λj p=>?_⟩ af
  ·rw[VN,List.nodup_append];refine⟨N,by simp,λa az a0 Y=>?_⟩;simp only[Vv,WH,VH] at Y;subst Y;intro q;subst q;obtain⟨j,p,l⟩:=Vz.mp az;have:(e.any λj=>decide (j.1=c.map Sum.inl))=true:=List.any_eq_true.mpr ⟨j,p,Vx l⟩;rw[wS,r] at this;exact absurd this ∅
  ·rcases VQ.mp p with q|q
   ·obtain⟨R,D,l,O⟩:=y j q;exact⟨R,D,l,Mo.mo i.gs O⟩
   ·simp only[VH] at q;subst q;exact⟨c,aF,rfl,af⟩
def A'(a:a8)(right:aG):Prop:=a.length<=500/\right.length=a.length/\(∀r∈a,r.length=a.length+a.length)/\pH right/\(∀x∈right,0<x.2/\IntMulOk x.1 (aR right/x.2))/\(∀r∈a,∀x∈r,IntMulOk x (aR right)/\∀y∈cS right (aR right),IntMulOk x y)
def re(L:jm)(time:Fr)(kept:c7)(a:ao):Prop:=A_ L a/\xo L a time kept/\∀s,j7 L.net L.aj a=some s->A' s (gq L.net L.rule L.aj a time kept)/\A2 L.net a (fD s (gq L.net L.rule L.aj a time kept))
inductive Ic(K:Frag)(A:bV)(vs:List V)(H:Hp)(Q:VK)(E:XK):Prop
 |mk (G v1 v2 v3 v4 L rows time kept) (_:vs=[v1,v2,v3,v4]) (_:aB G H) (_:kO K A G v1 L) (_:RL RS G v2 rows) (_:RF K G v3 time) (_:ot K G v4 kept) (_:iH G H L) (_:(∀st,st∈rows->re L time kept st)) (_:∀Z G' v,bG L.d H G Z G'->iH G' Z L->RO (jK K A) G' v (fM L.net L.rule L.aj rows time kept)->Q v Z):Ic K A vs H Q E
def Et(T:Tx P K mg A):ik P w K mg ah 47 A.gE "first_moment" ["self","rows","time","kept"] (Ic K A):=by
 have av:=O5 w ah T;have aC:=P' w ah T;have aB:=P5 w ah T;have aA:=Pu w ah T;have az:=O6 w ah T;refine T.KR.fn wg (by rintro vs H Q E ⟨_,_,_,_,_,_,_,_,_,rfl,_⟩;rfl) λf bq bi bu s H vs Q E y h=>?_;obtain⟨G,S,an,ao,aq,L,g,time,kept,rfl,am,aa,aQ,aR,aS,aT,a0,k⟩:=h;refine⟨_,(au (dY VJ rfl (gY (K:=K) ax) (bU 4 wg.nd)
    (au (bo 5 wg.nd (jA ap T.lc av y (a9 bP)))
   (au (a_ (bg lh da d7)
    (aw zC)
    bx)
   (au (bo 6 wg.nd (aL aC y (aV da (aL aB y (f9 ap (bZ bP aP aZ))))))
   (aw (a_ (d8 (aL aA y (bZ (ay K ap) bP eF)))
    (aw (aJ (nG az T.Oj y (aV bP eF))))
    bx))))))
   (aw (aJ d7))),?_⟩
 try simp only[bn]
 refine br [some S,some an,some ao,some aq,none,none,none] ?_;exists mz (G:=G) (r:=RS) (λj J o n=>bG L.d H G o n/\iH n o L/\(g.take j).findSome? (gQ L.net L.rule L.aj time kept)=none/\∃N O R:b9,J=[some S,some an,some ao,some aq,N,O,R]) aQ am ⟨(al.refl am).x,aT,rfl,none,none,none,rfl⟩ (λj J o n i=>⟨i.1.gs,i.1.sub⟩) ?_ ?_
 ·rintro j a be J o n D F ⟨e,B,v,N,O,R,rfl⟩;obtain⟨a6,a7,a8⟩:=a0 a (Vf D);have ai:=e.sub;have ab:=e.up aa;have aU:o L.d≠none:=by obtain⟨_,q,_⟩:=B;rw[q];exact λi=>nomatch i
  have next:gQ L.net L.rule L.aj time kept a=none->(g.take (j+1)).findSome? (gQ L.net L.rule L.aj time kept)=none:=λq=>by rw[VU,D,List.findSome?_append,v];simp[q]
  have aK:∀m,gQ L.net L.rule L.aj time kept a=some m->fM L.net L.rule L.aj g time kept=some m:=λm q=>by
   unfold fM;have:g=g.take j++(a::g.drop (j+1)):=by
    have aX:=(Vj.mp D).1;have p:g.drop j=a::g.drop (j+1):=by rw[W2 aX];congr 1;exact(Vj.mp D).2
    rw[<-p,Xg]
   rw[this,List.findSome?_append,v,Xq,q];rfl
  walk_at "go";obtain⟨bh,aE,aM,aI,a5,bb⟩:=id ab;refine⟨bh,aE,aM,aI,ai _ _ a5,bb.DO,?_⟩;exists⟨n,S,be,L,a,rfl,ai,ab,F,B,a6,λaD V bd p C c=>?_⟩;have l:=e.trans p aU;have bc:=l.sub;have ac:=l.up aa;have ad:aD L.d≠none:=by obtain⟨_,q,_⟩:=C;rw[q];exact λi=>nomatch i
  walk_at "go";cases t:j7 L.net L.aj a with
  |none=>rw[t] at c;have c:bd=.aO:=c;subst c;refine bv rfl ?_;exists⟨V,l,C,next (by unfold gQ;rw[t];rfl),_,_,_,rfl⟩
  |some I=>
   rw[t] at c;obtain⟨aY,c⟩:=c;obtain⟨a',ba⟩:=a8 I t;refine bf aY ?_;exists C3 V bc ac (RS.rt (p.up F)) (l.up aR) (l.up aS) a7 λbk ar bw M a1=>?_;exists bT ar M.sub (M.up c) a1 a' λbl as bz aG af=>?_;have z:=M.trans aG;have ak:=z.sub;have aN:=z.up ac;exists rR T aN ak λbC a3=>?_;exists gU as ak a3 (RS.rt (z.up (p.up F))) af ba λbm W bA Y a2=>?_;cases a2;have u:=z.trans Y;have aF:=l.trans u.x ad;walk_at "go";cases ae:kX L.net a (fD I (gq L.net L.rule L.aj a time kept)) with
   |true=>exists yi (rr:=jK K A) (b:=⟨a,fD I (gq L.net L.rule L.aj a time kept)⟩) W u.sub ⟨_,_,rfl,u.up (p.up F),Y.up af⟩ (λG x bs bt a4 aW=>jK.new a4 aW) λbp bj bB aH ag=>?_;have X:=u.trans aH;refine k _ _ _ (l.trans X.x ad) (C.up X) ?_;rw[aK ⟨a,fD I (gq L.net L.rule L.aj a time kept)⟩ (by unfold gQ;rw[t];simp only[Option.bind_some];rw[Vh ae])];refine⟨?_,ag⟩;obtain⟨bD,_,_,rfl,_⟩:=ag;exact λi=>nomatch i
   |false=>exists⟨W,aF,C.up u,next (by unfold gQ;rw[t];simp only[Option.bind_some];rw[Vg (by rw[ae];decide)]),_,_,_,rfl⟩
 ·rintro J o n ⟨e,B,v,N,O,R,rfl⟩;exists k _ _ _ e B ?_;rw[Wj] at v;unfold fM;rw[v];rfl
theorem ES{c β:Type}{b:c->β->Prop}:∀{d:List c}{e:List β}{f:List c}{g:List β},Paired b d e->Paired b f g->Paired b (d++f) (e++g)
 |_,_,_,_,.nil,h=>h
 |_,_,_,_,.cons a t,h=>.cons a (ES t h)
def EG(T:Tx P K mg A):Fn P w K mg ah 42 "lowest" ["x"] (bW (RF K) (RF K) (λx=>0<x.2) cn):=by
 have c:=ze w ah T;refine T.LM.fn Hz bW.aC λf r m y s H vs Q E b h=>?_;obtain⟨G,l,x,rfl,j,d,v,k⟩:=h;refine⟨_,(au (bo 1 Hz.nd (aL c b (aV (px K ap az) (px K ap az))))
   (aw (aJ (dC (aV (bF (oQ (oA T.tree b)) (px K ap az) ax) (bF (oQ (oA T.tree b)) (px K ap az) ax)))))),?_⟩
 try simp only[bn]
 refine br [some l,none] ?_;have u:0<cN x.1 x.2:=by
  unfold cN;have:Int.gcd x.1 x.2≠0:=λq=>by have:=(Int.gcd_eq_zero_iff.mp q).2;lia
  lia
 exists bT G j rfl rfl trivial λo n z a g=>?_;cases g;have i:=a.sub;have t:=a.up d;exists⟨dh,λp e=>k _ _ _ (a.trans (al.new i e)) (RF.new (x:=cn x))⟩
def PJ(T:Tx P K mg A):Fn P w K mg ah 41 "is_width" ["hn","hd"] (b6 RI RI RB (λ_ _=>True) gI):=by
 refine T.LH.fn Sa b6.aC λf p o u s H vs Q E t h=>?_;obtain⟨G,m,n,a,b,rfl,l,i,j,_,k⟩:=h;refine⟨_,(aw (aJ (lj (ff lP az ap) (lj (ff lP ap (aY T.rC)) (lj (ff lP az ax) (nH (ff lP ax (aY T.rC)))))))),?_⟩
 try simp only[bn]
 refine br [some m,some n] ?_;cases i;cases j;have e:∀r:Bool,r=gI a b->Q (.bl r) H:=λr q=>k _ _ _ (al.refl l) (by rw[q];rfl);walk_at "go";unfold gI at e;by_cases c:1<=a
 ·refine bv c ?_;walk_at "go";by_cases d:a<=1000000
  ·refine bv d ?_;walk_at "go";by_cases g:1<=b
   ·refine bv g ?_;exists e _ (by simp[c,d,g])
   ·refine bf g ?_;exact e _ (by simp[c,d,g])
  ·refine bf d ?_;exact e _ (by simp[c,d])
 ·refine bf c ?_;exact e _ (by simp[c])
def jX(n:bB)(k:Int):Option Int:=if k<(n.af.length:Nat) then some (n.af.getD k.toNat ae).kind else none
def yh{m:Str}{G H:Hp}{v:V}{n:bB}{R:Prop}(h:dE K A G v n)(s:aB G H)(d:m="kind_of")(k:R):∃a c b,v=.ref a/\H a=some (.aA A.cA c b)/\b.lookup m=none/\R:=by obtain⟨x,c,b,rfl,e,q⟩:=h;exact⟨x,c,b,rfl,s _ _ e,by rw[d];exact q.DN,k⟩
def zd(T:Tx P K mg A):ik P w K mg ah 41 A.cA "kind_of" ["self","k"] (b6 (dE K A) RI (RO RI) (λ_ k=>0<=k) jX):=by
 refine T.KZ.fn RG b6.aC λf q p x s H vs Q E t h=>?_;obtain⟨G,l,m,n,e,rfl,a,b,g,r,k⟩:=h;refine⟨_,(aw (aJ (sM (bg mO ax (eE K T.eu (ay K ap))) (ay K (px K (ay K ap) ax)) d7))),?_⟩
 try simp only[bn]
 refine br [some l,some m] ?_;cases g;unfold jX at k;exists jT T b a λy i=>?_;exists eZ i a ?_;walk_at "go";by_cases c:e<(n.af.length:Nat)
 ·refine bv c ?_;rw[Vh c] at k;exists jT T b a λz j=>?_;exists bE e.toNat j a ⋯ (getD_some (d:=ae) ⋯) λu v=>?_;exists k _ _ _ (al.refl a) ⟨(λo=>nomatch o),rfl⟩
 ·refine bf c ?_;rw[Vg c] at k;exists k _ _ _ (al.refl a) rfl
def u_:Option Int->Bool
 |none=>false
 |some k=>cT k
def Nh{H:Hp}{Q:VK}{p:Addr}(a:ao)(h:bi K H p (a.map V.int))(k:Q (.bl false) H):sS K false .aO (.ref p) H Q:=by
 refine⟨p,a.map V.int,rfl,.inr h,rfl,?_,?_⟩
 ·rw[VO];intro v b;obtain⟨n,_,rfl⟩:=Vz.mp b;rfl
 ·have e:k8 .aO (a.map V.int)=false:=by
   unfold k8;rw[List.any_eq_false];intro v b;obtain⟨n,_,rfl⟩:=Vz.mp b;simp;rfl
  show Q (.bl (k8 .aO (a.map V.int))) H;rw[e];exact k
def PB(T:Tx P K mg A):Fn P w K mg ah 41 "is_kept" ["kind"] (bW (RO RI) RB (λ_=>True) u_):=by
 refine T.B5.fn Hx bW.aC λf j g m s H vs Q E l h=>?_;obtain⟨G,d,o,rfl,c,a,_,k⟩:=h;refine⟨_,(aw (aJ (oR (nE (K:=K)) ap (dC (aV (aY T.pN) (aY T.pO))) rfl))),?_⟩
 try simp only[bn]
 refine br [some d] ?_;cases o with
 |none=>have a:d=.aO:=a;subst a;exists⟨dh,λe b=>Nh [1,2] (bi.of aS) (k _ _ _ (al.new c b) rfl)⟩
 |some i=>obtain⟨_,a⟩:=a;cases a;exists⟨dh,λe b=>oI [1,2] (bi.of aS) (k _ _ _ (al.new c b) rfl)⟩
def xp(x:Fr)(f:Int):Prop:=0<x.2/\IntMulOk x.1 f/\IntMulOk (x.1*f/x.2) x.2
def tO(n:bB)(m:i7)(f:Int):Prop:=n.af.length<=10/\∀k:Nat,k<n.af.length->cT (n.af.getD k ae).kind=true->pK n m.aE k/\pz n m.aE k/\xp (fU n m.aE k) f/\xp (fK n m.aE k) f
def EF(T:Tx P K mg A):Fn P w K mg ah 43 "kept_of" ["network","moment","fineness"] (eG (dE K A) (jK K A) RI (ot K) tO λn m f=>fc n m.aE f):=by
 have a5:=ED w ah T;have a6:=zj w ah T;have a4:=zf w ah T;have av:=P7 w ah T;refine T.LI.fn qt eG.aC λf bH bA bL s H vs Q E y h=>?_;obtain⟨G,aX,aY,bx,n,m,u,rfl,aU,ad,a',bb,⟨bJ,be⟩,k⟩:=h;refine⟨_,(au (bo 3 qt.nd (dk j1))
   (au (dY VJ rfl (sN (K:=K) (by rfl) T.rA (a9 (ay K ap))) (lp (K:=K) (n:=2) rfl (f_ (bU 4 qt.nd) (f_ (bU 5 qt.nd) lq)))
    (aw (a_ (d8 (aL a5 y (a9 (ay K da))))
    (au (bo 6 qt.nd (aL a6 y (bZ ap (ay K ax) bP)))
   (au (bo 7 qt.nd (aL a4 y (bZ ap (ay K ax) bP)))
   (aw (dU (lQ K aZ (dC (aV (aL av y (aV eF aP)) (aL av y (aV gZ aP)))))))))
    (aw (dU (lQ K aZ d7))))))
   (aw (aJ aZ)))),?_⟩
 try simp only[bn]
 refine br [some aX,some aY,some bx,none,none,none,none,none] ?_;cases bb
 try dsimp only at k
 exists⟨We _,λg x=>?_⟩;have S:=al.kH (o:=.aq []) aU x;have aF:ai H g (.aq []) g=some (.aq []):=aS;have bc:=aU.free x;generalize ai H g (.aq [])=bB at S aF ⊢;have aO:=S.sub;exists jT T ad aO λbR bm=>?_;exists r9 (G:=G) (λj O F d=>al H G F d/\∃(ys:aQ)(aj ak am an:b9),F g=some (.aq ys)/\d g=none/\Paired (RO (kg K) d) ys ((List.range j).map λk=>if cT (n.af.getD k ae).kind=true then some (rounded (fU n m.aE k) u,rounded (fK n m.aE k) u) else none)/\O=[some aX,some aY,some (.int u),some (.ref g),aj,ak,am,an]) bm aO ⟨S,[],none,none,none,none,aF,bc,.nil,rfl⟩ (λj O F d c=>⟨c.1.gs,c.1.sub⟩) ?_ ?_
 ·rintro j p bQ O F d a7 ao aH bK ⟨e,ys,aj,ak,am,an,N,J,M,rfl⟩ aA;have az:=e.trans aA;have bw:=az.sub;have bd:j<n.af.length:=(Vj.mp aH).1;have ac:n.af.getD j ae=p:=by rw[Vd,aH];rfl
  have aI:ys.length<=1000:=by have:=VP M;simp at this;lia
  exists dG ao bw rfl trivial λbC ar bM aB bg=>?_;cases bg;have i:=az.trans aB;have aR:=i.sub;have aD:=i.up a';have W:=aA.trans aB;have q:=W.hs _ _ N;have L:=W.fr g J (by rw[N];exact λc=>nomatch c);have aK:=Paired.imp (λ_ _ c=>Mo.mo (r:=RO (kg K)) W.gs c) M;have aW:∀{D:Nat->Option (Fr×Fr)}{d:Hp}{v:V},Paired (RO (kg K) d) ys ((List.range j).map D)->RO (kg K) d v (D j)->Paired (RO (kg K) d) (ys++[v]) ((List.range (j+1)).map D):=λ{D d v} a b=>by rw[V2,VN];exact ES a (.cons b .nil)
  walk_at "go";cases R:cT p.kind with
  |true=>
   refine jV ?_;obtain⟨bs,bt,bu,bv⟩:=be j bd (by rw[ac];exact R);exists x' T aD aR λbz ag=>?_;exists gU ar aR (i.up ad) ag rfl bs λbD a0 bN I bh=>?_;have aT:=I.sub;have ba:=I.up aD;exists x' T ba aT λbz ag=>?_;exists gU a0 aT (I.up (i.up ad)) ag rfl bt λbE a1 bO Y bj=>?_;have X:=I.trans Y;have bp:=X.hs _ _ q;have bI:=X.fr g L (by rw[q];exact λc=>nomatch c);exists jW bp ?_;exists bT a1 Y.sub (Y.up bh) rfl bu λbF a2 B aa bk=>?_;exists bT a2 aa.sub (aa.up bj) rfl bv λa8 as C ab bl=>?_;exists⟨dh,λz bf=>?_⟩;have t:=al.new (o:=.aN [B,C]) ab.sub bf;have l:=(((X.trans aa).trans ab).trans t)
   have aM:kg K (ai as z (.aN [B,C])) (.ref z) (rounded (fU n m.aE j) u,rounded (fK n m.aE j) u):=⟨z,B,C,rfl,bi.of aS,t.up (ab.up bk),t.up bl⟩
   generalize ai a8 z (.aN [B,C])=bG at t l ⊢;generalize ai as z (.aN [B,C])=a3 at t l aM;have bq:=l.hs _ _ q;have aG:=l.fr g L (by rw[q];exact λc=>nomatch c);exists lM bq (dB aI) ?_;exists⟨a3,(i.trans l).eV x aG,_,_,_,_,_,aS,aG,?_,rfl⟩;refine aW (Paired.imp (λ_ _ c=>Mo.mo (r:=RO (kg K)) l.gs c) aK) ?_;rw[ac,Vh R];exact⟨(λc=>nomatch c),aM⟩
  |false=>exists jW q ?_;exists lM q (dB aI) ?_;exists⟨ar,i.eV x L,_,_,_,_,_,aS,L,?_,rfl⟩;refine aW aK ?_;rw[ac,Vg (by rw[R];decide)];rfl
 ·rintro O a7 ao ⟨e,ys,aj,ak,am,an,N,J,M,rfl⟩;exists k _ _ _ (e.gr x N J) (RL.new J M)
def A8(n:bB)(f:aG)(a k:Int):Prop:=0<=a/\0<=k/\n.nodes<=f.length/\(k<(n.af.length:Nat)->(n.af.getD k.toNat ae).kind≠3->pK n f k/\pz n f k/\cV (fU n f k.toNat)/\cV (fK n f k.toNat))
def Ng{H:Hp}{Q:VK}{p:Addr}{y:V}{o:Option Int}{G:Hp}(a:RO RI G y o)(h:bi K H p [.aO,.int 3])(k:Q (.bl (decide (o=none\/o=some 3))) H):sS K false y (.ref p) H Q:=by
 refine⟨p,[.aO,.int 3],rfl,.inr h,?_,rfl,?_⟩
 ·cases o with
  |none=>have a:y=.aO:=a
         subst a;rfl
  |some i=>obtain⟨_,a⟩:=a
           cases a;rfl
 ·cases o with
  |none=>have a:y=.aO:=a;subst a;exact k
  |some i=>
   obtain⟨_,a⟩:=a;cases a;have e:k8 (.int i) [.aO,.int 3]=decide (some i=none\/some i=some (3:Int)):=by
    have:k8 (.int i) [.aO,.int 3]=gn [3] i:=by rw[<-Dn];rfl
    rw[this];unfold gn;by_cases q:i=3
    ·subst q;rfl
    ·have b:¬3=i:=λc=>q c.symm;simp[q,b]
   show Q (.bl (k8 (.int i) [.aO,.int 3])) H;rw[e];exact k
def P1(T:Tx P K mg A):Fn P w K mg ah 43 "quantity" ["network","found","what","k"] (nU (dE K A) (RL (RF K)) RI RI (RO (RF K)) A8 quantity):=by
 have ar:=EH w ah T;have X:=zf w ah T;have Y:=zj w ah T;have as:=qg w ah T;have aq:=zd w ah T;refine T.L4.fn Si nU.aC λf a3 aW a7 s H vs Q E d h=>?_;obtain⟨G,aQ,aR,aT,aU,n,a4,e,b,rfl,i,N,ad,az,aA,⟨a6,ag,a5,aD⟩,k⟩:=h;refine⟨_,(au (a_ (bg cp aP (aY T.J6))
    (aw (aJ (sM (bg lP aZ (ay K ap)) (aL ar d (aV ax aZ)) d7)))
    bx)
   (au (a_ ((j5 (bg iT aP (aY T.Ka)) (lT (vV (nE (K:=K)) (jA ap T.gJ aq d (a9 aZ)) (dC (aV d7 (aY T.lH))) rfl)))).pt
    (aw (aJ d7))
    bx)
   (au (a_ (bg cp aP (aY T.J0))
    (aw (aJ (aL X d (bZ ap ax aZ))))
    bx)
   (au (a_ (bg cp aP (aY T.Kg))
    (aw (aJ (aL Y d (bZ ap ax aZ))))
    bx)
   (aw (aJ (aL as d (aV (aL Y d (bZ ap ax aZ)) (aL X d (bZ ap ax aZ)))))))))),?_⟩
 try simp only[bn]
 refine br [some aQ,some aR,some aT,some aU] ?_;cases az;cases aA;unfold quantity at k;have C:∀{D:Hp}{v:V}{x:Fr},RF K D v x->RO (RF K) D v (some x):=λ{D v x} q=>by refine⟨?_,q⟩;obtain⟨p,rfl,_⟩:=q;exact λS=>nomatch S
 walk_at "go";by_cases j:e=0
 ·refine bv j ?_;rw[Vh j] at k;walk_at "go";by_cases l:b<=n.nodes
  ·refine bv l ?_;rw[Vh l] at k;exists bT G i ad rfl ⟨ag,⋯⟩ λaa W aM y O=>k _ _ _ y (C O)
  ·refine bf l ?_;rw[Vg l] at k;exists k _ _ _ (al.refl i) rfl
 ·refine bf j ?_;rw[Vg j] at k;walk_at "go";by_cases m:3<e
  ·refine bv (show e>3 from m) ?_;rw[Vh (.inl m)] at k;exists k _ _ _ (al.refl i) rfl
  ·refine bf (show ¬e>3 from m) ?_;exists yh N i rfl ?_;exists bT G i N rfl ag λaa W aM y O=>?_;have aK:=y.sub;exists⟨dh,λam aE=>Ng O (bi.of aS) ?_⟩;have L:=al.new (o:=.aN [.aO,.int 3]) aK aE;have a:=y.trans L;generalize ai aa am (.aN [.aO,.int 3])=a0 at L a ⊢;generalize ai W am (.aN [.aO,.int 3])=F at L a;have R:=a.sub;have z:=a.up N;have B:=a.up ad;have ac:(jX n b=none\/jX n b=some 3)↔(¬b<(n.af.length:Nat)\/(n.af.getD b.toNat ae).kind=3):=by
    unfold jX;by_cases q:b<(n.af.length:Nat)
    ·simp[-List.getD_eq_getElem?_getD,q]
    ·simp[q]
   walk_at "go";by_cases r:jX n b=none\/jX n b=some 3
   ·refine bv r ?_;rw[Vh (.inr (ac.mp r))] at k;exists k _ _ _ a rfl
   ·refine bf r ?_;have J:=λS=>r (ac.mpr S);rw[Vg (by rintro(q|q);exact m q;exact J q)] at k;have aB:b<(n.af.length:Nat):=Xx λq=>J (.inl q);obtain⟨aj,ak,aH,aI⟩:=aD aB λq=>J (.inr q);walk_at "go";by_cases t:e=1
    ·refine bv t ?_;rw[Vh t] at k;exists gU F R z B rfl ak λab I an c g=>k _ _ _ (a.trans c) (C g)
    ·refine bf t ?_;rw[Vg t] at k;walk_at "go";by_cases u:e=2
     ·refine bv u ?_;rw[Vh u] at k;exists gU F R z B rfl aj λab I an c g=>k _ _ _ (a.trans c) (C g)
     ·refine bf u ?_;rw[Vg u] at k;exists gU F R z B rfl aj λab I an c g=>?_;exists gU I c.sub (c.up z) (c.up B) rfl ak λa1 ao a8 M aF=>?_;exists bT ao M.sub (M.up g) aF ⟨aH,aI⟩ λa2 aX a' av aG=>k _ _ _ (((a.trans c).trans M).trans av) (C aG)
def bG.dP{d:Addr}{H G g e i f:Hp}(a:al H G g e)(b:bG d g e i f)(l:H d=none):al H G i f:=by refine⟨λc o h=>b.hs c o (dI h l) (a.hs c o h),a.gs.trans b.gs,b.sub,λc k j=>b.fr c (a.fr c k j) ?_⟩;exact λm=>j (a.hs.free m)
def C4{H G:Hp}{R:Addr->Hp->Prop}{E:XK}{j l:V}{n:bB}{rule:Int}{aj:Fr}(s:aB G H)(w:dE K A G j n)(y:RF K G l aj)
  (k:∀c b x d,al H G c b->kO K A b (.ref x) ⟨n,rule,aj,d⟩->H d=none->iH b c ⟨n,rule,aj,d⟩->R x c):
  ∀x a,H x=none->H a=none->a≠x->Az K A (.ref x::[j,.int rule,l]) (ai (ai H a (.own x)) x (.aA A.gE a [])) (λv r=>v=.aO/\R x r) E:=by
 intro x a i g F;refine⟨G,x,a,j,l,n,rule,aj,rfl,qd s i g,s.free i,aS,w,y,λc b m d e u o C f z t=>⟨rfl,?_⟩⟩;have p:d≠x:=λD=>by rw[D,aS] at f;exact nomatch f
 have B:H d=none:=by
  rw[bA p] at f;by_cases q:d=a
  ·rw[q];exact g
  ·rw[bA q] at f;exact f
 refine k c (ai b x (.aA A.gE a m)) x d (yY s i g e u o) ⟨x,a,m,rfl,aS,C.aF (aB.new o)⟩ B ⟨[],z,?_,by simp,λI h=>by simp at h⟩;rw[bA p];exact t
def xk(n:bB):Prop:=im n/\∀d a,a∈cj n.diodes.length->re ⟨n,0,am,d⟩ am (List.replicate n.af.length (some (am,am))) a
def PV(T:Tx P K mg A):Fn P w K mg ah 48 "operating_point" ["network"] (bW (dE K A) (RO (jK K A)) xk li):=by
 have D:=Eu w ah T;have C:=Et w ah T;have F:=Ey w ah T;refine T.LW.fn Ao bW.aC λf aP aE aW s H vs Q E j h=>?_;obtain⟨G,as,n,rfl,z,q,⟨N,X⟩,k⟩:=h
 refine⟨_,(au (sR (i:=1) rfl Ao.nd rfl rfl (tu rfl rfl rfl rfl) (gY (K:=K) (ay K ap)) (hW (own:=[("part",2)]) (by show gC ["network","nothing","part"] (aM z9) _ _=true;decide+kernel)) (λ_ _ _ _ _=>(bU 2 Ao.nd)) (λ_ _ _ _ _=>iV) (λ_ _ _ _ _=>(dC (aV (aY T.mn) (aY T.mn)))))
   (aw (aJ (jA (nG D T.DM j (bZ ap az (aY T.mn))) T.lc C j (bZ (aL F j (a9 (eE K T.eu (ay K ap)))) (aY T.mn) ax))))),?_⟩
 try simp only[bn]
 refine br [some as,none,none] ?_;have aQ:=N.aC;exists jT T q z λa1 ag=>?_;refine pX (r:=dH K A) (rr:=RO (kg K)) (λ_=>some (am,am)) ag z (dB ⋯) (λ_=>rfl) ?_ ?_
 ·intro aH aF u x R e aU aX aj;exists⟨dh,λaq aa=>?_⟩;refine aj _ _ _ (al.new e.sub aa) ⟨(λaD=>nomatch aD),aq,_,_,rfl,bi.of aS,T.mF _,T.mF _⟩
 ·intro aI m v b ab;have an:=b.sub;have t:=b.up q;exists C4 an t (T.mF m) λaK B aA d c l S W=>?_;have g:=c.sub;have O:=c.up t;obtain⟨aB,I,M,p,ai,ak⟩:=id l;refine⟨aB,I,M,p,g _ _ ai,ak.yS,?_⟩;generalize V.ref aA=av at l p ⊢;exists pU T O g λa0 ae=>?_;exists eZ ae g ?_;walk_at "go";have aT:=N.dl;refine dG B g rfl ⟨⋯,⋯⟩ λaN o ar a y=>?_;rw[VE] at y;walk_at "go";have L:n.af.map (λ_=>some (am,am))=List.replicate n.af.length (some (am,am)):=by rw[List.map_const']
  have ac:ot K m v (List.replicate n.af.length (some (am,am))):=by rw[<-L];exact ab
  refine⟨o,av,ar,_,v,⟨n,0,(0,1),d⟩,_,am,_,rfl,a.sub,a.up l,y,T.mF o,a.up (c.up ac),W.up a,λao Y=>X d ao Y,λaO aG aZ J aR ad=>?_⟩;exact k _ _ _ (bG.dP (b.trans (c.trans a)) J (b.hs.free S)) ad
theorem mP{f:Str}{v w:V}:∀{a:cK},a.lookup f=some w->(aD f v a).length=a.length
 |[],h=>by simp at h
 |(b,x)::r,h=>by
  unfold aD;by_cases e:b=f
  ·rw[Vh e];rfl
  ·rw[Vg e];have c:(f==b)=false:=by simpa using λd=>e d.symm
   rw[WR,c] at h;rw[Vu,Vu,mP h]
structure tV(K:Frag)(A:bV)(G:Hp)(fs:cK)(n:bB)(r:dr)(L:jm):Prop where
 network:Fl fs "network" (dE K A G) n
 aU:Fl fs "width" (RF K G) r.aU
 laws:Fl fs "laws" (kO K A G) L
 rows:Fl fs "rows" (RL RS G) (cj n.diodes.length)
 gF:Fl fs "fineness" (RI G) r.gF
 made:Fl fs "made" (RI G) r.made
 cF:Fl fs "moment" (jK K A G) r.cF
 di:Fl fs "memory" (ot K G) r.di
 m1:fs.lookup ("advance":Str)=none
 m2:fs.lookup ("time_after":Str)=none
 aC:fs.length<=8
def tV.aF{K:Frag}{A:bV}{G b:Hp}{c:cK}{n:bB}{r:dr}{L:jm}(s:aB G b)(h:tV K A G c n r L):tV K A b c n r L:=
 ⟨h.network.imp λ_ a=>Mo.mo s a,h.aU.imp λ_ a=>Mo.mo s a,h.laws.imp λ_ a=>Mo.mo s a,h.rows.imp λ_ a=>Mo.mo s a,h.gF,h.made,h.cF.imp λ_ a=>Mo.mo s a,h.di.imp λ_ a=>Mo.mo s a,h.m1,h.m2,h.aC⟩
structure kP(K:Frag)(A:bV)(G H:Hp)(x:Addr)(n:bB)(r:dr)(L:jm):Prop where
 obj:∃dx fs,H x=some (.aA A.cG dx fs)/\tV K A G fs n r L
 g:G x=none
 dict:iH G H L
 ne:x≠L.d
 net:L.net=n
 rule:L.rule=r.rule
 aj:L.aj=fQ r.rule r.aU
def kP.up{K:Frag}{A:bV}{G H a b:Hp}{x:Addr}{n:bB}{r:dr}{L:jm}(h:kP K A G H x n r L)(e:al H G b a):kP K A a b x n r L:=by obtain⟨d,f,c,q⟩:=h.obj;exact⟨⟨d,f,e.hs _ _ c,q.aF e.gs⟩,e.fr _ h.g (by rw[c];exact λi=>nomatch i),h.dict.up e,h.ne,h.net,h.rule,h.aj⟩
inductive Im(K:Frag)(A:bV)(vs:List V)(H:Hp)(Q:VK)(E:XK):Prop
 |mk (G x dx fs vw wd j) (_:vs=[.ref x,.int j]) (_:aB G H) (_:H x=some (.aA A.cG dx fs)) (_:fs.lookup ("width":Str)=some vw) (_:RF K G vw wd) (_:IntMulOk j wd.1) (_:∀Z G' v,al H G Z G'->RF K G' v (j*wd.1,wd.2)->Q v Z):Im K A vs H Q E
def Ew(T:Tx P K mg A):ik P w K mg ah 41 A.cG "time_after" ["self","steps"] (Im K A):=by
 refine T.K7.fn RP (by rintro vs H Q E ⟨_,_,_,_,_,_,_,rfl,_⟩;rfl) λf n m y s H vs Q E t h=>?_;obtain⟨G,x,o,q,z,d,j,rfl,g,c,b,u,r,k⟩:=h;obtain⟨i,ev⟩:∃v,v=V.ref x:=⟨_,rfl⟩
 obtain⟨l,a⟩:∃v,v=V.int j:=⟨_,rfl⟩
 rw[<-ev, <-a];refine⟨_,(aw (aJ (dC (aV (bF eQ ax (px K (ay K ap) az)) (px K (ay K ap) az))))),?_⟩
 try simp only[bn]
 refine br [some i,some l] ?_;subst ev a;exists cH c T.d5 T.y_ b ?_;exists cH c T.d5 T.y_ b ?_;exists⟨dh,λp e=>k _ _ _ (al.new g e) (RF.new (x:=(j*d.1,d.2)))⟩
def rb(n:bB)(rule:Int)(aU:Fr)(bits:Int)(m:i7):Prop:=im n/\cV (rule+1,1)/\cV aU/\(0<=bits/\bits<=64)/\tO n m (ga bits)
inductive AA(K:Frag)(A:bV)(vs:List V)(H:Hp)(Q:VK)(E:XK):Prop
 |mk (G x dx v2 v4 v6 n rule aU bits m) (_:vs=[.ref x,v2,.int rule,v4,.int bits,v6]) (_:aB G H) (_:G x=none) (_:H x=some (.aA A.cG dx [])) (_:dE K A G v2 n) (_:RF K G v4 aU) (_:jK K A G v6 m) (_:rb n rule aU bits m) (_:∀Z G' L,bG x H G Z G'->kP K A G' Z x n ⟨rule,aU,ga bits,0,m,fc n m.aE (ga bits)⟩ L->H L.d=none->Q .aO Z):AA K A vs H Q E
def Pc(T:Tx P K mg A):kL P w K mg ah 44 A.cG ["self","network","rule","width","bits","moment"] (AA K A):=by
 have bg:=Eu w ah T;have bk:=zi w ah T;have bh:=Ey w ah T;have bj:=P0 w ah T;have bi:=EF w ah T;refine T.K6.fn RN (by rintro vs H Q E ⟨_,_,_,_,_,_,_,_,_,_,_,rfl,_⟩;rfl) λf b5 bW b7 s H vs Q E p h=>?_;obtain⟨G,x,a,y,X,z,n,rule,aU,bits,m,rfl,bO,bs,bL,I,a6,a7,⟨N,bQ,bR,bu,bD⟩,k⟩:=h;obtain⟨bS,ev⟩:∃v,v=V.ref x:=⟨_,rfl⟩
 obtain⟨bU,a3⟩:∃v,v=V.int rule:=⟨_,rfl⟩
 obtain⟨bV,a4⟩:∃v,v=V.int bits:=⟨_,rfl⟩
 rw[<-ev, <-a3, <-a4];refine⟨_,(au (cY K ap ax)
   (au (cY K ap aZ)
   (au (cY K ap (nG bg T.DM p (bZ ax aP (aL bk p (aV (dC (aV (bF je aP az) az)) aZ)))))
   (au (cY K ap (aL bh p (a9 (eE K T.eu (ay K ax)))))
   (au (cY K ap (aL bj p (a9 bP)))
   (au (cY K ap az)
   (au (cY K ap da)
   (aw (cY K ap (aL bi p (bZ ax da (ay K ap)))))))))))),?_⟩
 try simp only[bn]
 refine br [some bS,some y,some bU,some X,some bV,some z] ?_;subst ev a3 a4;have b6:=N.dl;have aH:=iJ.start bO bL bs;exists cX aH.hx T.d5 T.Ed (Vl aH.l ∅) ?_;have aI:=aH.put "network" y;exists cX aI.hx T.d5 T.y_ (Vl aI.l ∅) ?_;have M:=aI.put "width" X;obtain⟨ag,a8⟩:∃b,b=aD "width" X (aD "network" y []):=⟨_,rfl⟩
 rw[<-a8] at M ⊢;generalize ai (ai H x (.aA A.cG a (aD "network" y []))) x (.aA A.cG a ag)=bo at M ⊢;have bN:=M.e.sub;exists⟨dh,λS bE=>?_⟩;have i:=al.new (o:=.aN [.int (rule+1),.int 1]) bN bE;have bb:RF K (ai G S (.aN [.int (rule+1),.int 1])) (.ref S) (rule+1,1):=RF.new (x:=(rule+1,1));have aK:=M.then i
 generalize ai bo S (.aN [.int (rule+1),.int 1])=b1 at i aK ⊢;generalize ai G S (.aN [.int (rule+1),.int 1])=bd at i aK bb;exists bT bd i.sub bb (i.up a6) ⟨bQ,bR⟩ λb2 bX b8 ac bH=>?_;have aM:=aK.then ac
 have a1:=i.trans ac;exists C4 (rule:=rule) ac.sub (a1.up I) bH λa0 aY Y d a2 bJ an bw=>?_;have aO:=aM.then a2
 have C:=a1.trans a2;have J:x≠d:=λc=>by rw[<-c,aM.hx] at an;exact nomatch an
 have bv:H d=none:=by
  cases q:H d with
  |none=>rfl
  |some o=>exact absurd (aM.e.hs d o (λc=>J c.symm) q) (by rw[an];exact λc=>nomatch c)
 exists cX aO.hx T.d5 T.Ec (Vl aO.l ∅) ?_;have O:=aO.put "laws" (.ref Y);have as:iH aY (ai a0 x (.aA A.cG a (aD "laws" (.ref Y) ag))) ⟨n,rule,cU (rule+1,1) aU,d⟩:=by obtain⟨aG,aS,aT⟩:=bw;exact⟨aG,by rw[bA (λc=>J c.symm)];exact aS,aT⟩
 obtain⟨aj,a_⟩:∃b,b=aD "laws" (.ref Y) ag:=⟨_,rfl⟩
 rw[<-a_] at O as ⊢;generalize ai a0 x (.aA A.cG a aj)=b3 at O as ⊢;have aW:=O.e.sub;have bt:=C.up I;exists pU T bt aW λb_ bK=>?_;exists eZ bK aW ?_;exists dG aY aW rfl ⟨⋯,⋯⟩ λbp be W ad ba=>?_;rw[VE] at ba;have aQ:=O.then ad
 have bB:=as.up ad;exists cX aQ.hx T.d5 T.Ee (Vl aQ.l ∅) ?_;have R:=aQ.put "rows" W;have B:∀{ab aa:Hp}{o:HO},iH aa ab ⟨n,rule,cU (rule+1,1) aU,d⟩->iH aa (ai ab x o) ⟨n,rule,cU (rule+1,1) aU,d⟩:=λ{ab aa o} q=>by obtain⟨aG,aS,aT⟩:=q;exact⟨aG,by rw[bA (λc=>J c.symm)];exact aS,aT⟩
 have av:=B (o:=.aA A.cG a (aD "rows" W aj)) bB;obtain⟨ak,a'⟩:∃b,b=aD "rows" W aj:=⟨_,rfl⟩
 rw[<-a'] at R av ⊢;generalize ai bp x (.aA A.cG a ak)=b4 at R av ⊢;exists dG be R.e.sub rfl bu λbq bf b9 F bI=>?_;cases bI;have aR:=R.then F
 have bC:=av.up F;exists cX aR.hx T.d5 T.y8 (Vl aR.l ∅) ?_;have r:=aR.put "fineness" (.int (ga bits));have ao:=B (o:=.aA A.cG a (aD "fineness" (.int (ga bits)) ak)) bC;obtain⟨ae,aC⟩:∃b,b=aD "fineness" (.int (ga bits)) ak:=⟨_,rfl⟩
 rw[<-aC] at r ao ⊢;generalize ai bq x (.aA A.cG a ae)=bl at r ao ⊢;exists cX r.hx T.d5 T.vI (Vl r.l ∅) ?_;have t:=r.put "made" (.int 0);have aq:=B (o:=.aA A.cG a (aD "made" (.int 0) ae)) ao;obtain⟨af,aE⟩:∃b,b=aD "made" (.int 0) ae:=⟨_,rfl⟩
 rw[<-aE] at t aq ⊢;generalize ai bl x (.aA A.cG a af)=bm at t aq ⊢;exists cX t.hx T.d5 T.su (Vl t.l ∅) ?_;have u:=t.put "moment" z;have ar:=B (o:=.aA A.cG a (aD "moment" z af)) aq;obtain⟨a5,aF⟩:∃b,b=aD "moment" z af:=⟨_,rfl⟩
 rw[<-aF] at u ar ⊢;generalize ai bm x (.aA A.cG a a5)=bY at u ar ⊢;have bM:=u.e.sub;have D:=ad.gs.trans F.gs;exists cH u.hx T.d5 T.y8 (by rw[aF,aE,aC];walk_at "lk") ?_;exists gU bf bM (Mo.mo (C.gs.trans D) I) (Mo.mo (C.gs.trans D) a7) rfl bD λb0 bc aX j bG=>?_;have aJ:=u.then j
 have bx:=ar.up j;exists cX aJ.hx T.d5 T.vJ (Vl aJ.l ∅) ?_;have L:=aJ.put "memory" aX;have bz:=B (o:=.aA A.cG a (aD "memory" aX a5)) bx;walk_at "go";have am:aB G bc:=(C.gs.trans D).trans j.gs;refine k _ _ ⟨n,rule,cU (rule+1,1) aU,d⟩ L.e ⟨⟨a,_,L.hx,⟨⟨y,?_,Mo.mo am I⟩,⟨X,?_,Mo.mo am a6⟩,⟨.ref Y,?_,Mo.mo (D.trans j.gs) bJ⟩,⟨W,?_,Mo.mo (F.gs.trans j.gs) ba⟩,⟨_,?_,rfl⟩,⟨_,?_,rfl⟩,⟨z,?_,Mo.mo am a7⟩,⟨aX,?_,bG⟩,?_,?_,L.l⟩⟩,L.g,bz,J,rfl,rfl,rfl⟩ bv
 all_goals (try rw[aF,aE,aC,a',a_,a8])
 all_goals walk_at "lk"
 all_goals (try rfl)
def xa(n:bB)(r:dr):Prop:=im n/\IntMulOk (r.made+1) r.aU.1/\(∀d a,a∈r.cF.states::cj n.diodes.length->re ⟨n,r.rule,fQ r.rule r.aU,d⟩ (iE r (r.made+1)) r.di a)/\
 ∀m,fM n r.rule (fQ r.rule r.aU) (r.cF.states::cj n.diodes.length) (iE r (r.made+1)) r.di=some m->tO n m r.gF
inductive H_(K:Frag)(A:bV)(vs:List V)(H:Hp)(Q:VK)(E:XK):Prop
 |mk (G x n r L) (_:vs=[.ref x]) (_:aB G H) (_:kP K A G H x n r L) (_:xa n r) (_:∀Z G',fW [x,L.d] H G Z G'->kP K A G' Z x n ((fG n r).getD r) L->Q (.bl (fG n r).isSome) Z):H_ K A vs H Q E
def Pb(T:Tx P K mg A):ik P w K mg ah 48 A.cG "advance" ["self"] (H_ K A):=by
 have bl:=Ew w ah T;have bk:=Et w ah T;have bm:=EF w ah T;refine T.K5.fn Ae (by rintro vs H Q E ⟨_,_,_,_,_,rfl,_⟩;rfl) λf cp cm cq s H vs Q E aW h=>?_;obtain⟨G,x,n,r,L,rfl,cc,bM,⟨N,bK,bO,bJ⟩,k⟩:=h;obtain⟨cf,ev⟩:∃v,v=V.ref x:=⟨_,rfl⟩
 rw[<-ev];refine⟨_,(au (bo 1 Ae.nd (jA ap T.d5 bl aW (a9 (bF je (ay K ap) az))))
   (au (bo 2 Ae.nd (jA (ay K ap) T.lc bk aW (bZ (bF sH (dk (a9 (ay K (ay K ap)))) (ay K ap)) ax (ay K ap))))
   (au (a_ (bg lh aP d7)
    (aw (aJ ic))
    bx)
   (au (vU (K:=K) ap az uY)
   (au (cY K ap aP)
   (au (cY K ap (aL bm aW (bZ (ay K ap) aP (ay K ap))))
   (aw (aJ ic)))))))),?_⟩
 try simp only[bn]
 refine br [some cf,none,none] ?_;subst ev;obtain⟨⟨b,F,ak,c⟩,bz,a8,R,ae,ag,af⟩:=id bM;have bE:=N.dl;obtain⟨cr,aY,b5⟩:=id c.made;obtain⟨cg,bU,b6⟩:=id c.aU;obtain⟨ch,bV,be⟩:=id c.laws;obtain⟨ci,bc,b8⟩:=id c.cF;obtain⟨cs,bX,b9⟩:=id c.rows;obtain⟨bj,bd,b_⟩:=id c.di;obtain⟨ck,b0,b'⟩:=id c.network;obtain⟨ct,b2,ca⟩:=id c.gF;cases b5;cases ca;exists⟨x,b,F,rfl,ak,c.m2,?_⟩;exists cH ak T.d5 T.vI aY ?_;exists⟨G,x,b,F,cg,r.aU,r.made+1,rfl,cc,ak,bU,b6,bK,λbp a1 ce aa bP=>?_⟩;have aX:=aa.hs _ _ ak;have aG:=aa.sub;exists cH aX T.d5 T.Ec bV ?_;have b7:=aa.up be;obtain⟨cl,bs,bw,bu,bT,b4⟩:=id b7;refine⟨cl,bs,bw,bu,aG _ _ bT,b4.yS,?_⟩;exists cH aX T.d5 T.su bc ?_;refine Cs T (aa.up b8) aG λaI bS=>?_;exists⟨by show 1<=sizeLine;decide,λaH ba=>?_⟩;have ab:=al.new (o:=.aq [aI]) aG ba;have bh:RL RS (ai a1 aH (.aq [aI])) (.ref aH) [r.cF.states]:=RL.new (aG.free ba) (.cons bS .nil);generalize ai bp aH (.aq [aI])=bq at ab ⊢;generalize ai a1 aH (.aq [aI])=a2 at ab bh;have Y:=aa.trans ab;have bb:=ab.hs _ _ aX;exists cH bb T.d5 T.Ee bX ?_;exists r8 bh (Y.up b9) Y.sub (by
  have:(cj n.diodes.length).length<=8:=by rw[ue];exact VW (n:=2) ∅ bE
  exact WP (dB (by rw[List.length_singleton];lia))) λq us a' bR=>?_
 have ac:=al.new (o:=.aq us) Y.sub a';have bi:RL RS (ai a2 q (.aq us)) (.ref q) ([r.cF.states]++cj n.diodes.length):=RL.new (Y.sub.free a') bR;generalize ai bq q (.aq us)=cn at ac ⊢;generalize ai a2 q (.aq us)=a3 at ac bi;have D:=Y.trans ac;have aE:=ac.hs _ _ bb;exists cH aE T.d5 T.vJ bd ?_;walk_at "go";have bB:L=⟨n,r.rule,fQ r.rule r.aU,L.d⟩:=by cases L;simp only at ae ag af;subst ae ag af;rfl
 refine⟨a3,ch,.ref q,ce,bj,L,_,(((r.made+1)*r.aU.1,r.aU.2)),r.di,rfl,D.sub,D.up be,bi,(ab.trans ac).up bP,D.up b_,a8.up D,λcd bN=>?_,λI p W ad aN t=>?_⟩
 ·rw[bB];exact bO L.d cd bN
 have bH:fM L.net L.rule L.aj ([r.cF.states]++cj n.diodes.length) (((r.made+1)*r.aU.1,r.aU.2)) r.di=fM n r.rule (fQ r.rule r.aU) (r.cF.states::cj n.diodes.length) (iE r (r.made+1)) r.di:=by rw[ae,ag,af];rfl
 rw[bH] at t;have am:=ad.hs _ _ R aE;have bI:a3 x=none:=D.fr x bz (by rw[ak];exact λa=>nomatch a);have aT:p x=none:=ad.fr x bI (by rw[aE];exact λa=>nomatch a);have a6:aB G p:=D.gs.trans ad.gs;have a0:=c.aF a6
 have a5:fW [x,L.d] H G I p:=D.m.trans (ad.m (by simp)) (by
  intro y an;simp only[Vo,V8,W4] at an;rcases an with rfl|rfl
  ·rw[aE];exact λa=>nomatch a
  ·obtain⟨_,q,_⟩:=a8.up D;rw[q];exact λa=>nomatch a)
 unfold fG at k;walk_at "go";cases aV:fM n r.rule (fQ r.rule r.aU) (r.cF.states::cj n.diodes.length) (iE r (r.made+1)) r.di with
 |none=>rw[aV] at t k;have t:W=.aO:=t;subst t;refine bv rfl ?_;exists k _ _ a5 ⟨⟨b,F,am,a0⟩,aT,aN,R,ae,ag,af⟩
 |some m=>
  rw[aV] at t k;obtain⟨bL,t⟩:=t;refine bf bL ?_;have cb:=ad.sub;exists uR am T.d5 T.vI aY ?_;exists uS ?_;refine⟨b,F,am,Vl c.aC ∅,?_⟩;have z:iJ A.cG x b I p (ai I x (.aA A.cG b (aD "made" (.int (r.made+1)) F))) p (aD "made" (.int (r.made+1)) F) 8:=⟨bG.put cb am aT,aS,aT,by rw[mP aY];exact c.aC⟩
  have aQ:iH p (ai I x (.aA A.cG b (aD "made" (.int (r.made+1)) F))) L:=by obtain⟨ao,ar,as⟩:=aN;exact⟨ao,by rw[bA (λa=>R a.symm)];exact ar,as⟩
  obtain⟨M,i⟩:∃a,a=aD "made" (.int (r.made+1)) F:=⟨_,rfl⟩
  rw[<-i] at z aQ ⊢;generalize ai I x (.aA A.cG b M)=aK at z aQ ⊢;have bW:M.lookup ("moment":Str)=some ci:=by rw[i];walk_at "lk";exact bc
  exists cX z.hx T.d5 T.su (Vl z.l ∅) ?_;have S:iJ A.cG x b I p (ai aK x (.aA A.cG b (aD "moment" W M))) p (aD "moment" W M) 8:=⟨z.e.iW z.hx z.g,aS,z.g,by rw[mP bW];exact z.l⟩
  have aR:iH p (ai aK x (.aA A.cG b (aD "moment" W M))) L:=by obtain⟨ao,ar,as⟩:=aQ;exact⟨ao,by rw[bA (λa=>R a.symm)];exact ar,as⟩
  obtain⟨O,j⟩:∃a,a=aD "moment" W M:=⟨_,rfl⟩
  rw[<-j] at S aR ⊢;generalize ai aK x (.aA A.cG b O)=co at S aR ⊢;have b1:O.lookup ("network":Str)=some ck:=by rw[j,i];walk_at "lk";exact b0
  have b3:O.lookup ("fineness":Str)=some (.int r.gF):=by rw[j,i];walk_at "lk";exact b2
  have bY:O.lookup ("memory":Str)=some bj:=by rw[j,i];walk_at "lk";exact bd
  exists cH S.hx T.d5 T.Ed b1 ?_;exists cH S.hx T.d5 T.y8 b3 ?_;exists gU p S.e.sub (Mo.mo a6 b') t rfl (bJ m aV) λa4 av aZ aM bQ=>?_;have J:=S.then aM
  have bC:=aR.up aM;exists cX J.hx T.d5 T.vJ (Vl J.l ∅) ?_;have bD:iH av (ai a4 x (.aA A.cG b (aD "memory" aZ O))) L:=by obtain⟨ao,ar,as⟩:=bC;exact⟨ao,by rw[bA (λa=>R a.symm)];exact ar,as⟩
  have bt:bG x I p (ai a4 x (.aA A.cG b (aD "memory" aZ O))) av:=J.e.iW J.hx J.g;have a7:aB p av:=aM.gs
  exists k _ av (a5.trans (bt.m (by simp)) (by
   intro y an;simp only[Vo,V8,W4] at an;rcases an with rfl|rfl
   ·rw[am];exact λa=>nomatch a
   ·obtain⟨_,q,_⟩:=aN;rw[q];exact λa=>nomatch a)) ⟨⟨b,_,aS,?_⟩,J.g,bD,R,ae,ag,af⟩
  have X:=a0.aF a7;refine⟨?_,?_,?_,?_,?_,⟨.int (r.made+1),?_,rfl⟩,⟨W,?_,Mo.mo a7 t⟩,⟨aZ,?_,bQ⟩,?_,?_,by rw[mP bY];exact J.l⟩
  ·obtain⟨C,u,B⟩:=X.network;exact⟨C,by rw[j,i];walk_at "lk";exact u,B⟩
  ·obtain⟨C,u,B⟩:=X.aU;exact⟨C,by rw[j,i];walk_at "lk";exact u,B⟩
  ·obtain⟨C,u,B⟩:=X.laws;exact⟨C,by rw[j,i];walk_at "lk";exact u,B⟩
  ·obtain⟨C,u,B⟩:=X.rows;exact⟨C,by rw[j,i];walk_at "lk";exact u,B⟩
  ·obtain⟨C,u,B⟩:=X.gF;exact⟨C,by rw[j,i];walk_at "lk";exact u,B⟩
  ·rw[j,i];walk_at "lk"
  ·rw[j];walk_at "lk"
  ·walk_at "lk"
  ·rw[j,i];walk_at "lk";exact c.m1
  ·rw[j,i];walk_at "lk";exact c.m2
noncomputable def fv:cR:=["begin","start","step","now","is_on","kept"]
structure tW(K:Frag)(A:bV)(G H:Hp)(M:bL)(x:Addr)(fs:cK)(s:bX):Prop where
 net:∃v,fs.lookup ("network":Str)=some v/\RO (dE K A) G v s.net
 run:match s.run with
  |none=>fs.lookup ("run":Str)=some .aO
  |some r=>∃y L n,s.net=some n/\fs.lookup ("run":Str)=some (.ref y)/\kP K A G H y n r L/\y∈M/\L.d∈M/\y≠x/\L.d≠x
 aC:fs.length<=2
 ms:∀m,m∈fv->fs.lookup m=none
structure gc(K:Frag)(A:bV)(G H:Hp)(M:bL)(x:Addr)(s:bX):Prop where
 obj:∃dx fs,H x=some (.aA A.dO dx fs)/\tW K A G H M x fs s
 g:G x=none
 xm:x∈M
 there:∀m,m∈M->H m≠none
def tW.up{K:Frag}{A:bV}{G H g i:Hp}{M:bL}{x:Addr}{j:cK}{s:bX}(h:tW K A G H M x j s)(e:al H G i g):tW K A g i M x j s:=by
 obtain⟨⟨v,l,m⟩,f,o,p⟩:=h;refine⟨⟨v,l,Mo.mo e.gs m⟩,?_,o,p⟩;cases k:s.run with
 |none=>rw[k] at f;exact f
 |some r=>rw[k] at f;obtain⟨y,L,n,a,b,c,d⟩:=f;exact⟨y,L,n,a,b,c.up e,d⟩
def gc.up{K:Frag}{A:bV}{G H b c:Hp}{M:bL}{x:Addr}{s:bX}(h:gc K A G H M x s)(e:al H G c b):gc K A b c M x s:=by
 obtain⟨f,i,d,q⟩:=h.obj;refine⟨⟨f,i,e.hs _ _ d,q.up e⟩,e.fr _ h.g (by rw[d];exact λa=>nomatch a),h.xm,λm j=>?_⟩;cases q:H m with
 |none=>exact absurd q (h.there m j)
 |some o=>rw[e.hs _ _ q];exact λa=>nomatch a
inductive oY{β:Type}(K:Frag)(A:bV)(args:Hp->List V->β->Prop)(pre:bX->β->Prop)(step:bX->β->bX×List Int)(vs:List V)(H:Hp)(Q:VK)(E:XK):Prop
 |mk (G M x us s b) (_:vs=.ref x::us) (_:aB G H) (_:gc K A G H M x s) (_:args G us b) (_:pre s b) (_:∀Z G' M' v,fW M H G Z G'->gc K A G' Z M' x (step s b).1->(∀m,m∈M'->m∈M\/H m=none)->RL RI G' v (step s b).2->Q v Z):oY K A args pre step vs H Q E
def k9{G:Hp}{p:Addr}(a:ao)(h:G p=none):RL RI (ai G p (.aq (a.map V.int))) (.ref p) a:=RL.new h (zn G a)
def jp{G H a b:Hp}{M:bL}{x:Addr}{s:bX}{f:ao}{Q:VK}(h:gc K A G H M x s)(e:al H G a b)(c:ao)(l:c=f)
  (k:∀a b d v,fW M H G a b->gc K A b a d x s->(∀m,m∈d->m∈M\/H m=none)->RL RI b v f->Q v a)(p:Addr)(i:a p=none):Q (.ref p) (ai a p (.aq (c.map V.int))):=by
 subst l;have g:=e.trans (al.new (o:=.aq (c.map V.int)) e.sub i);exact k _ _ M _ g.m (h.up g) (λm j=>.inl j) (k9 c (e.sub.free i))
def Nk{β:Type}{C:Addr}{args:Hp->aQ->β->Prop}{Fs:Hp->cK->β->Prop}{rr:Rl β}{H:Hp}{R:Addr->Hp->Prop}{E:XK}{us:aQ}{b:β}(G:Hp)(s:aB G H)(n:args G us b)
  (o:∀(G:Hp)(x a:Addr)(f:cK),G x=none->Fs G f b->rr (ai G x (.aA C a f)) (.ref x) b)(k:∀d c x,al H G d c->rr c (.ref x) b->R x d):
  ∀x a,H x=none->H a=none->a≠x->oZ C args Fs (.ref x::us) (ai (ai H a (.own x)) x (.aA C a [])) (λv j=>v=.aO/\R x j) E:=by
 intro x a g i _;refine⟨G,x,a,us,b,rfl,qd s g i,s.free g,aS,n,λd c f e l h m=>⟨rfl,?_⟩⟩;exact k d _ _ (yY s g i e l h) (o c x a f h m)
inductive Ie(K:Frag)(A:bV)(vs:List V)(H:Hp)(Q:VK)(E:XK):Prop
 |mk (G x dx) (_:vs=[.ref x]) (_:aB G H) (_:G x=none) (_:H x=some (.aA A.dO dx [])) (_:∀Z,bG x H G Z G->gc K A G Z [x] x ⟨none,none⟩->Q .aO Z):Ie K A vs H Q E
def Pe(T:Tx P K mg A):kL P w K mg ah 41 A.dO ["self"] (Ie K A):=by
 refine T.K9.fn RQ (by rintro vs H Q E ⟨_,_,_,rfl,_⟩;rfl) λf t r y s H vs Q E u h=>?_;obtain⟨G,x,i,rfl,o,j,n,k⟩:=h;obtain⟨p,ev⟩:∃v,v=V.ref x:=⟨_,rfl⟩
 rw[<-ev];refine⟨_,(au (cY K ap d7)
   (aw (cY K ap d7))),?_⟩
 try simp only[bn]
 refine br [some p] ?_;subst ev;have c:=iJ.start o n j;exists cX c.hx T.dM T.mM (Vl c.l ∅) ?_;have d:=c.put "network" .aO;exists cX d.hx T.dM T.iz (Vl d.l ∅) ?_;have b:=d.put "run" .aO;exists k _ b.e ⟨⟨i,_,b.hx,⟨.aO,?_,rfl⟩,?_,b.l,?_⟩,b.g,by simp,?_⟩
 ·walk_at "lk"
 ·show List.lookup _ _=_;walk_at "lk"
 ·intro m a;simp only[fv,Vo,V8,W4] at a;rcases a with rfl|rfl|rfl|rfl|rfl|rfl
  all_goals walk_at "lk"
  all_goals (try rfl)
 ·intro m a;simp only[VH] at a;subst a;rw[aS];exact λq=>nomatch q
def Ju:Hp->aQ->ao×ao->Prop:=λG us b=>∃a c,us=[a,c]/\RL RI G a b.1/\RL RI G c b.2
def AX(_:bX)(b:ao×ao):Prop:=b.1.length<=120/\b.2.length<=300
def QS{net:ao}(h:ia net=true):(∃m,net.length=7*m+1/\m<=10)/\(bC net).length<=10/\∀p∈bC net,qZ p:=by
 unfold ia at h;simp only[Vt,WY,W1,Wu,Vp,Int.not_lt,Nat.not_lt,ne_eq,Decidable.not_not,VO,VB] at h;obtain⟨⟨t,s,u⟩,w,r,v⟩:=h;refine⟨⟨net.length/7,⋯,⋯⟩,by unfold bC;simp;lia,λp n=>?_⟩;unfold bC at n;obtain⟨j,i,rfl⟩:=Vz.mp n;have i:=VB.mp i;have k:(seven net j).length=7:=by unfold seven;rw[V0,V9];lia
 have g:=r j i;generalize seven net j=l at k g
 match l,k with
 |[a,b,c,d,e,f,o],_=>unfold gW k_ at g;simp only[WA,Wg,List.drop_succ_cons,Xe,List.take_succ_cons,List.take_zero,WX,List.all_nil,Bool.and_true,Vt,WY,W1,Wu,Vp,Int.not_lt] at g;have q:=oO (x:=(f,o)) g.2.2;refine⟨⟨?_,?_,?_,?_⟩,q.1⟩<;>simp only[ji,WA,Wg]<;>lia
def Pd(T:Tx P K mg A):ik P w K mg ah 45 A.dO "begin" ["self","net","waves"] (oY K A Ju AX λs b=>lG s b.1 b.2):=by
 have bi:=PD w ah T;have bk:=PY w ah T;have be:=Px w ah T;have bl:=Qd w ah T;have bj:=PM w ah T;have bd:=O7 w ah T;refine T.K8.fn wt (by rintro vs H Q E ⟨_,_,_,_,_,_,rfl,_,_,⟨_,_,rfl,_⟩,_⟩;rfl) λf bX bU b2 s H vs Q E R h=>?_;obtain⟨G,M,x,_,bM,⟨net,i⟩,rfl,bL,S,⟨bQ,bR,rfl,Y,aG⟩,⟨bu,aY⟩,k⟩:=h
 try dsimp only at Y aG bu aY k
 obtain⟨bO,ev⟩:∃v,v=V.ref x:=⟨_,rfl⟩
 rw[<-ev];refine⟨_,(au (a_ (jC (d8 (aL bi R (a9 ax))))
    (aw (aJ (dk (a9 (gX g9 az)))))
    bx)
   (au (bo 3 wt.nd (aL bk R (a9 ax)))
   (au (bo 4 wt.nd (aL be R (aV (px K ax az) aZ)))
   (au (a_ (bg iT (eE K T.eu bP) az)
    (aw (aJ (bF sH (dk (a9 (gX g9 az))) bP)))
    bx)
   (au (bo 5 wt.nd (aL bl R (aV aZ aP)))
   (au (a_ ((j5 (bg mO (eE K T.eu da) (eE K T.eu aZ)) (lT (bg mO (aL bj R (a9 da)) (eE K T.eu aP))))).pt
    (aw (aJ (dk (aV (gX g9 az) (eE K T.eu da)))))
    bx)
   (au (cY K ap (nG bd T.Ol R (bZ (px K ax az) aZ da)))
   (au (cY K ap d7)
   (aw (aJ (dk (a9 az)))))))))))),?_⟩
 try simp only[bn]
 refine br [some bO,some bQ,some bR,none,none,none] ?_;subst ev;unfold lG at k;exists dG G bL Y ⋯ λbV bb b3 af bw=>?_;cases bw;walk_at "go";cases aE:ia net with
 |false=>rw[Vh (show(!false)=true from rfl)];rw[Vh aE] at k;exists⟨by show 1<=sizeLine;decide,jp S af [-1] rfl k⟩
 |true=>
  refine iP ?_;rw[Vg (by rw[aE];decide)] at k;obtain⟨a7,bI,bJ⟩:=QS aE;have a1:0<net.length:=by obtain⟨m,q,_⟩:=a7;lia
  exists dG bb af.sub (af.up Y) a7 λbW bc b4 bp an=>?_;have ae:=af.trans bp;exists bE 0 (ae.up Y) ae.sub rfl (getD_some (d:=0) a1) λbS aH=>?_;cases aH;exists bT bc ae.sub rfl an ⟨⋯,bJ⟩ λbm as b5 ag a5=>?_;have J:=ae.trans ag;exists eZ a5 J.sub ?_;walk_at "go";by_cases aT:0<(hZ (net.getD 0 0) (bC net)).length
  ·refine bv (show((hZ (net.getD 0 0) (bC net)).length:Int)>0 by lia) ?_;rw[Vh aT] at k;exists⟨by show 1<=sizeLine;decide,λar a4=>?_⟩;have D:=al.new (o:=.aq [.int (-2)]) J.sub a4;have a':RL RI (ai as ar (.aq [.int (-2)])) (.ref ar) [-2]:=k9 [-2] (J.sub.free a4);generalize ai bm ar (.aq [.int (-2)])=aR at D ⊢;generalize ai as ar (.aq [.int (-2)])=av at D a';have j:=J.trans D;have b0:(hZ (net.getD 0 0) (bC net)).length<=2:=by
    unfold hZ;have:∀f k,(jr (net.getD 0 0) (bC net) f k).length<=2:=by
     intro f;induction f with
     |zero=>intro k;simp[jr]
     |succ f ao=>intro k;unfold jr;split
                 ·simp
                 ·exact ao _
    exact this _ _
   exists r8 a' (D.up a5) j.sub (WP (dB (by rw[List.length_singleton];lia))) λq us a2 bA=>?_;have t:=al.new (o:=.aq us) j.sub a2;exact k _ _ M _ (j.trans t).m (S.up (j.trans t)) (λm u=>.inl u) (RL.new (j.sub.free a2) bA)
  ·refine bf (show ¬((hZ (net.getD 0 0) (bC net)).length:Int)>0 by lia) ?_;rw[Vg aT] at k;exists bT as J.sub (ag.up an) (J.up aG) ⟨bI,aY⟩ λaR av b6 D aa=>?_;have j:=J.trans D;have b1:(bN i (bC net) 0).length<=10:=by
    have:∀(ps:bh)(a:Nat),(bN i ps a).length<=ps.length:=by
     intro ps;induction ps with
     |nil=>intro a;simp[bN]
     |cons p ps ao=>
      intro a;unfold bN;split
      ·split
       ·simp
       ·exact Nat.succ_le_succ (ao _)
      ·exact Nat.succ_le_succ (ao _)
    have:=this (bC net) 0;lia
   exists eZ aa j.sub ?_;exists eZ ((ag.trans D).up an) j.sub ?_;walk_at "go";have aS:∀(B I:Hp),al H G B I->((bN i (bC net) 0).length<(bC net).length\/fq (bN i (bC net) 0)<(i.length:Nat))->∀p,B p=none->Q (.ref p) (ai B p (.aq [.int (-3),.int ((bN i (bC net) 0).length:Nat)])):=λB I t c=>by rw[Vh c] at k;exact jp S t [-3,((bN i (bC net) 0).length:Nat)] rfl k
   have bY:∀(B I:Hp),al H G B I->¬((bN i (bC net) 0).length<(bC net).length\/fq (bN i (bC net) 0)<(i.length:Nat))->True:=λ_ _ _ _=>trivial;by_cases aU:(bN i (bC net) 0).length<(bC net).length
   ·rw[Vh (Vx (show((bN i (bC net) 0).length:Int)<(bC net).length by lia)),Vh rfl];exists eZ aa j.sub ?_;exists⟨dh,aS aR av j (.inl aU)⟩
   ·refine bf (show ¬((bN i (bC net) 0).length:Int)<(bC net).length by lia) ?_;exists dG av j.sub aa ⋯ λB I b7 t bz=>?_;cases bz;have C:=j.trans t;exists eZ (C.up aG) C.sub ?_;walk_at "go";by_cases ad:fq (bN i (bC net) 0)<(i.length:Nat)
    ·refine bv ad ?_;exists eZ (t.up aa) C.sub ?_;exists⟨dh,aS B I C (.inr ad)⟩
    ·refine bf ad ?_;rw[Vg (by rintro(q|q);exact aU q;exact ad q)] at k;exists bE 0 (C.up Y) C.sub rfl (getD_some (d:=0) a1) λbS aH=>?_;cases aH;exists Nk (args:=Ba K A) (Fs:=oh K A) (rr:=dE K A) (b:=ak (net.getD 0 0) (bC net) (bN i (bC net) 0)) I C.sub ⟨_,_,_,_,_,rfl,((ag.trans D).trans t).up an,t.up aa,⋯,rfl⟩ (λG x X F aI bt=>dE.new aI bt) λac ab N bq bB=>?_;have aF:=C.trans bq;have am:=S.up aF;obtain⟨X,F,aI,W⟩:=am.obj;have aM:iJ A.dO x X ac ab ac ab F 2:=⟨⟨λ_ _ _ h=>h,aB.refl _,aF.sub,λ_ h _=>h⟩,aI,am.g,W.aC⟩
     obtain⟨b8,bH,_⟩:=W.net;have aK:∃aQ,F.lookup ("run":Str)=some aQ:=by
      have:=W.run;cases a3:bM.run with
      |none=>rw[a3] at this;exact⟨_,this⟩
      |some r=>rw[a3] at this;obtain⟨y,L,n,_,b,_⟩:=this;exact⟨_,b⟩
     obtain⟨aQ,aK⟩:=aK;exists cX aM.hx T.dM T.mM (Vl aM.l ∅) ?_;have aN:=aM.put "network" (V.ref N);have bG:(aD "network" (V.ref N) F).length<=2:=by rw[mP bH];exact W.aC
     exists cX aN.hx T.dM T.iz (Vl aN.l ∅) ?_;have z:=aN.put "run" .aO;have a6:(aD "run" .aO (aD "network" (V.ref N) F)).length<=2:=by
      have:(aD "network" (V.ref N) F).lookup ("run":Str)=some aQ:=by walk_at "lk";exact aK
      rw[mP this];exact bG
     obtain⟨aX,aj⟩:∃O,O=aD "run" .aO (aD "network" (V.ref N) F):=⟨_,rfl⟩
     rw[<-aj] at z a6 ⊢;generalize ai (ai ac x (.aA A.dO X (aD "network" (V.ref N) F))) x (.aA A.dO X aX)=ay at z ⊢;exists⟨by show 1<=sizeLine;decide,λp a0=>?_⟩;have aW:=al.new (o:=.aq [.int 0]) z.e.sub a0;have bs:fW M H G ay ab:=aF.m.trans (z.e.m S.xm) λy bD=>am.there y bD;have ba:∀m,m∈M->ay m≠none:=λm u=>by
      by_cases q:m=x
      ·subst q;rw[z.hx];exact λO=>nomatch O
      ·cases a8:ac m with
       |none=>exact absurd a8 (am.there m u)
       |some o=>rw[z.e.hs m o q a8];exact λO=>nomatch O
     have bK:gc K A ab ay M x ⟨some (ak (net.getD 0 0) (bC net) (bN i (bC net) 0)),none⟩:=by
      refine⟨⟨X,aX,z.hx,⟨(V.ref N),?_,?_,bB⟩,?_,a6,λm u=>?_⟩,z.g,S.xm,ba⟩
      ·rw[aj];walk_at "lk"
      ·exact λO=>nomatch O
      ·show List.lookup _ _=_;rw[aj];walk_at "lk"
      ·have:=W.ms m u;simp only[fv,Vo,V8,W4] at u;rw[aj];rcases u with rfl|rfl|rfl|rfl|rfl|rfl<;>(walk_at "lk";exact this)
     exact k _ _ M _ (bs.trans aW.m ba) (bK.up aW) (λm u=>.inl u) (k9 [0] (z.e.sub.free a0))
def Nl{H G:Hp}{R:Addr->Hp->Prop}{E:XK}{i j l:V}{n:bB}{rule bits:Int}{aU:Fr}{m:i7}(s:aB G H)(u:dE K A G i n)(w:RF K G j aU)(z:jK K A G l m)(F:rb n rule aU bits m)
  (k:∀c g y L,al H G c g->kP K A g c y n ⟨rule,aU,ga bits,0,m,fc n m.aE (ga bits)⟩ L->H y=none->H L.d=none->R y c):
  ∀x a,H x=none->H a=none->a≠x->AA K A (.ref x::[i,.int rule,j,.int bits,l]) (ai (ai H a (.own x)) x (.aA A.cG a [])) (λv t=>v=.aO/\R x t) E:=by
 intro x a f p M;refine⟨G,x,a,i,j,l,n,rule,aU,bits,m,rfl,qd s f p,s.free f,aS,u,w,z,F,λc g L e I r=>⟨rfl,?_⟩⟩;have h:∀b o,H b=some o->ai (ai H a (.own x)) x (.aA A.cG a []) b=some o:=λb o q=>by rw[bA (dI q f),bA (dI q p)];exact q
 have B:H L.d=none:=by
  cases q:H L.d with
  |none=>rfl
  |some o=>rw[h _ _ q] at r;exact nomatch r
 refine k c g x L ⟨λb o q=>e.hs b o (dI q f) (h b o q),e.gs,e.sub,λb C D=>e.fr b C ?_⟩ I f B;cases q:H b with
 |none=>exact absurd q D
 |some o=>rw[h _ _ q];exact λJ=>nomatch J
def Jv:Hp->aQ->Int×Int×Int×Int->Prop:=λ_ us b=>us=[.int b.1,.int b.2.1,.int b.2.2.1,.int b.2.2.2]
def tX(s:bX)(b:Int×Int×Int×Int):Prop:=(0<=b.1/\0<=b.2.2.2)/\∀n,s.net=some n->xk n/\(¬(1<b.1\/64<b.2.2.2\/gI b.2.1 b.2.2.1=false)->∀m,li n=some m->rb n b.1 (b.2.1,b.2.2.1) b.2.2.2 m)
def Pj(T:Tx P K mg A):ik P w K mg ah 49 A.dO "start" ["self","rule","hn","hd","bits"] (oY K A Jv tX λs b=>j8 s b.1 b.2.1 b.2.2.1 b.2.2.2):=by
 have bi:=PJ w ah T;have bj:=PV w ah T;have bh:=Pc w ah T;refine T.Lb.fn Hs (by rintro vs H Q E ⟨_,_,_,_,_,_,rfl,_,_,rfl,_⟩;rfl) λf b4 b1 b7 s H vs Q E aG h=>?_;obtain⟨G,M,x,_,ba,⟨rule,i,e,bits⟩,rfl,ao,B,rfl,⟨⟨bO,b0⟩,a4⟩,k⟩:=h
 try dsimp only at bO b0 a4 k
 obtain⟨bU,ev⟩:∃v,v=V.ref x:=⟨_,rfl⟩
 obtain⟨bV,aW⟩:∃v,v=V.int rule:=⟨_,rfl⟩
 obtain⟨bW,aX⟩:∃v,v=V.int i:=⟨_,rfl⟩
 obtain⟨bX,a0⟩:∃v,v=V.int e:=⟨_,rfl⟩
 obtain⟨bY,a1⟩:∃v,v=V.int bits:=⟨_,rfl⟩
 rw[<-ev];dsimp only;rw[<-aW, <-aX, <-a0, <-a1];refine⟨_,(au (a_ (bg lh (ay K ap) d7)
    (aw (aJ (dk (a9 (gX g9 az)))))
    bx)
   (au (a_ ((j5 (bg iT ax (aY T.Kb)) (j5 (bg iT bP (aY T.JZ)) (lT (jC (d8 (aL bi aG (aV aP aZ)))))))).pt
    (aw (aJ (dk (a9 (gX g9 az)))))
    bx)
   (au (bo 5 Hs.nd (aL bj aG (a9 (ay K ap))))
   (au (a_ (bg lh da d7)
    (aw (aJ (dk (a9 (gX g9 az)))))
    bx)
   (au (cY K ap (nG bh T.Oo aG (f9 (ay K ap) (f9 ax (bZ (dC (aV aP aZ)) bP da)))))
   (aw (aJ (dk (a9 az))))))))),?_⟩
 try simp only[bn]
 refine br [some bU,some bV,some bW,some bX,some bY,none] ?_;subst ev aW aX a0 a1;obtain⟨b5,b6,N,bd⟩:=B.obj;obtain⟨bb,am,t⟩:=bd.net;unfold j8 at k;exists cH N T.dM T.mM am ?_;walk_at "go";cases aF:ba.net with
 |none=>rw[aF] at t k;have t:bb=.aO:=t;subst t;refine bv rfl ?_;exists⟨by show 1<=sizeLine;decide,jp B (al.refl ao) [-8] rfl k⟩
 |some n=>
  rw[aF] at t k
  try dsimp only at k
  obtain⟨a8,t⟩:=t;obtain⟨bB,bD⟩:=a4 n aF;refine bf a8 ?_;walk_at "go";have aM:(1<rule\/64<bits\/gI i e=false)->∀(C O:Hp),al H G C O->∀p,C p=none->Q (.ref p) (ai C p (.aq [.int (-1)])):=λc C O z=>by rw[Vh c] at k;exact jp B z [-1] rfl k
  by_cases ad:1<rule
  ·rw[Vh (Vx (show rule>1 from ad)),Vh rfl];exists⟨by show 1<=sizeLine;decide,aM (.inl ad) H G (al.refl ao)⟩
  ·refine bf (show ¬rule>1 from ad) ?_;walk_at "go";by_cases ae:64<bits
   ·rw[Vh (Vx (show bits>64 from ae)),Vh rfl];exists⟨by show 1<=sizeLine;decide,aM (.inr (.inl ae)) H G (al.refl ao)⟩
   ·refine bf (show ¬bits>64 from ae) ?_;exists bT G ao rfl rfl trivial λC O b8 z bF=>?_;cases bF;walk_at "go";cases aR:gI i e with
    |false=>exists⟨by show 1<=sizeLine;decide,aM (.inr (.inr aR)) C O z⟩
    |true=>
     refine iP ?_;have a3:¬(1<rule\/64<bits\/gI i e=false):=by rw[aR];rintro(q|q|q);exact ad q;exact ae q;cases q
     rw[Vg a3] at k;have bH:=z.hs _ _ N;exists cH bH T.dM T.mM am ?_;exists dG O z.sub (z.up t) bB λbk aQ bS bt u=>?_;have af:=z.trans bt;have bI:=af.hs _ _ N;walk_at "go";cases aB:li n with
     |none=>rw[aB] at u k;have u:bS=.aO:=u;subst u;refine bv rfl ?_;exists⟨by show 1<=sizeLine;decide,jp B af [-4] rfl k⟩
     |some m=>
      rw[aB] at u k
      try dsimp only at k
      obtain⟨bM,u⟩:=u;refine bf bM ?_;exists cH bI T.dM T.mM am ?_;exists⟨dh,λar bE=>?_⟩;have S:=al.new (o:=.aN [.int i,.int e]) af.sub bE;have a':RF K (ai aQ ar (.aN [.int i,.int e])) (.ref ar) (i,e):=RF.new (x:=(i,e));generalize ai bk ar (.aN [.int i,.int e])=b3 at S ⊢;generalize ai aQ ar (.aN [.int i,.int e])=b2 at S a';have I:=af.trans S;exists Nl S.sub (I.up t) a' (S.up u) (bD a3 m aB) λD R y L aT bC aa av=>?_;have ag:=I.trans aT;have Y:=B.up ag;obtain⟨F,aj,aH,ac⟩:=Y.obj;have aI:=ag.hs _ _ N;rw[aH] at aI;simp only[VC,HO.aA.injEq] at aI;obtain⟨_,rfl,rfl⟩:=aI;have aK:∃bc,aj.lookup ("run":Str)=some bc:=by
       have:=ac.run;cases a6:ba.run with
       |none=>rw[a6] at this;exact⟨_,this⟩
       |some r=>rw[a6] at this;obtain⟨y,L,n,_,b,_⟩:=this;exact⟨_,b⟩
      obtain⟨bc,aK⟩:=aK;have a7:y≠x:=λa=>by rw[a] at aa;exact absurd aa (by rw[I.hs _ _ N];exact λa=>nomatch a)
      have a2:L.d≠x:=λa=>by rw[a] at av;exact absurd av (by rw[I.hs _ _ N];exact λa=>nomatch a)
      exists cX aH T.dM T.iz (Vl ac.aC ∅) ?_;have J:bG x D R (ai D x (.aA A.dO F (aD "run" (.ref y) aj))) R:=bG.put aT.sub aH Y.g;have ab:kP K A R (ai D x (.aA A.dO F (aD "run" (.ref y) aj))) y n ⟨rule,(i,e),ga bits,0,m,fc n m.aE (ga bits)⟩ L:=by obtain⟨⟨bs,bw,bJ,be⟩,bz,⟨bK,bN,an⟩,bl,bm,bp,bq⟩:=bC;exact⟨⟨bs,bw,by rw[bA a7];exact bJ,be⟩,bz,⟨bK,by rw[bA a2];exact bN,an⟩,bl,bm,bp,bq⟩
      obtain⟨W,X⟩:∃a,a=aD "run" (.ref y) aj:=⟨_,rfl⟩
      have bL:W.length<=2:=by rw[X,mP aK];exact ac.aC
      rw[<-X] at J ab ⊢;have ak:ai D x (.aA A.dO F W) x=some (.aA A.dO F W):=aS;generalize ai D x (.aA A.dO F W)=as at J ab ak ⊢;have bQ:gc K A R as [x,y,L.d] x ⟨some n,some ⟨rule,(i,e),ga bits,0,m,fc n m.aE (ga bits)⟩⟩:=by
       refine⟨⟨F,W,ak,⟨bb,?_,a8,Mo.mo ag.gs t⟩,⟨y,L,n,rfl,?_,ab,by simp,by simp,a7,a2⟩,bL,λl j=>?_⟩,Y.g,by simp,λl j=>?_⟩
       ·rw[X];walk_at "lk";exact am
       ·rw[X];walk_at "lk"
       ·have:=ac.ms l j;simp only[fv,Vo,V8,W4] at j;rw[X];rcases j with rfl|rfl|rfl|rfl|rfl|rfl<;>(walk_at "lk";exact this)
       ·simp only[Vo,V8,W4] at j;rcases j with rfl|rfl|rfl
        ·rw[ak];exact λa=>nomatch a
        ·obtain⟨⟨_,_,q,_⟩,_⟩:=ab;rw[q];exact λa=>nomatch a
        ·obtain⟨_,q,_⟩:=ab.dict;rw[q];exact λa=>nomatch a
      exists⟨by show 1<=sizeLine;decide,λp a5=>?_⟩;have aU:=al.new (o:=.aq [.int 0]) J.sub a5;have bu:fW M H G as R:=ag.m.trans (J.m B.xm) λy aa=>Y.there y aa;have bR:∀l,l∈M->as l≠none:=λl j=>by
       by_cases q:l=x
       ·subst q;rw[ak];exact λa=>nomatch a
       ·cases an:D l with
        |none=>exact absurd an (Y.there l j)
        |some o=>rw[J.hs l o q an];exact λa=>nomatch a
      refine k _ _ [x,y,L.d] _ (bu.trans aU.m bR) (bQ.up aU) (λl j=>?_) (k9 [0] (J.sub.free a5));simp only[Vo,V8,W4] at j;rcases j with rfl|rfl|rfl
      ·exact .inl B.xm
      ·exact .inr (I.hs.free aa)
      ·exact .inr (I.hs.free av)
def jP(n:bB):Nat->dr->Option dr
 |0,r=>some r
 |j+1,r=>(jP n j r).bind (fG n)
theorem xC(n:bB):∀(j:Nat)(r:dr),jP n (j+1) r=(fG n r).bind (jP n j)
 |0,r=>by show fG n r=(fG n r).bind (jP n 0);cases fG n r<;>rfl
 |j+1,r=>by show(jP n (j+1) r).bind (fG n)=_;rw[xC n j r];cases fG n r<;>rfl
theorem Bg(n:bB):∀(j:Nat)(r r':dr),jP n j r=some r'->gB n j r=(j,r')
 |0,r,r',h=>by cases h;rfl
 |j+1,r,r',h=>by
  rw[xC] at h;unfold gB;cases a:fG n r with
  |none=>rw[a] at h;cases h
  |some q=>rw[a] at h;show((gB n j q).1+1,(gB n j q).2)=_;rw[Bg n j q r' h]
theorem Bi(n:bB):∀(j d:Nat)(r r':dr),jP n j r=some r'->fG n r'=none->gB n (j+(d+1)) r=(j,r')
 |0,d,r,r',h,a=>by cases h;rw[show 0+(d+1)=d+1 by lia];unfold gB;rw[a]
 |j+1,d,r,r',h,a=>by
  rw[xC] at h;rw[show j+1+(d+1)=(j+(d+1))+1 by lia];unfold gB;cases b:fG n r with
  |none=>rw[b] at h;cases h
  |some q=>rw[b] at h;show((gB n (j+(d+1)) q).1+1,(gB n (j+(d+1)) q).2)=_;rw[Bi n j d q r' h a]
def xx:Hp->aQ->Int->Prop:=λ_ us b=>us=[.int b]
def tY(s:bX)(k:Int):Prop:=0<=k/\(k<=100->∀n r,s.net=some n->s.run=some r->∀j r',j<k.toNat->jP n j r=some r'->xa n r')
def Pk(T:Tx P K mg A):ik P w K mg ah 49 A.dO "step" ["self","n"] (oY K A xx tY lW):=by
 have aH:=Pb w ah T;refine T.Lc.fn Ht (by rintro vs H Q E ⟨_,_,_,_,_,_,rfl,_,_,rfl,_⟩;rfl) λf a8 a7 bb s H vs Q E aX h=>?_;obtain⟨G,M,x,_,a3,l,rfl,ag,z,rfl,⟨ba,aU⟩,k⟩:=h;obtain⟨a4,ev⟩:∃v,v=V.ref x:=⟨_,rfl⟩
 obtain⟨a5,am⟩:∃v,v=V.int l:=⟨_,rfl⟩
 rw[<-ev, <-am];refine⟨_,(au (a_ (bg lh (ay K ap) d7)
    (aw (aJ (dk (a9 (gX g9 az)))))
    bx)
   (au (a_ (bg iT ax (aY T.Ke))
    (aw (aJ (dk (a9 (gX g9 az)))))
    bx)
   (au (dY VJ rfl (lR (by rfl) T.hR (a9 ax)) (bU 2 Ht.nd)
    (aw (a_ (jC (d8 (jj (ay K ap) T.d5 aH aX)))
    (aw (aJ (dk (aV az aP))))
    bx)))
   (aw (aJ (dk (aV az ax))))))),?_⟩
 try simp only[bn]
 refine br [some a4,some a5,none] ?_;subst ev am;obtain⟨aa,ab,S,J⟩:=z.obj;have Fr:=J.run;unfold lW at k;walk_at "go";cases ad:a3.run with
 |none=>rw[ad] at Fr k;refine cH S T.dM T.iz Fr ?_;exists bv rfl ?_;exists⟨by show 1<=sizeLine;decide,jp z (al.refl ag) [-8] rfl k⟩
 |some r=>
  rw[ad] at Fr k
  try dsimp only at k
  obtain⟨y,L,n,ac,af,aZ,a1,aO,ar,an⟩:=Fr;refine cH S T.dM T.iz af ?_;exists bf (λa=>nomatch a) ?_;walk_at "go";by_cases c:100<l
  ·refine bv (show l>100 from c) ?_;rw[Vh c] at k;exists⟨by show 1<=sizeLine;decide,jp z (al.refl ag) [-1] rfl k⟩
  ·refine bf (show ¬l>100 from c) ?_;rw[Vg c,ac] at k
   try dsimp only at k
   have aW:=aU ⋯ n r ac ad;exists⟨l,rfl,⋯,⋯,?_⟩;have Y:∀(i t:Hp)(r':dr),fW [y,L.d] H G i t->kP K A t i y n r' L->i x=some (.aA A.dO aa ab)/\gc K A t i M x ⟨some n,some r'⟩/\fW M H G i t:=λi t r' e u=>by
    have I:i x=some (.aA A.dO aa ab):=e.hs _ _ (by simp only[Vo,V8,W4];rintro(q|q);exact ar q.symm;exact an q.symm) S;obtain⟨a6,a2,aF⟩:=J.net;rw[ac] at aF;refine⟨I,⟨⟨aa,ab,I,⟨a6,a2,Mo.mo e.gs aF⟩,⟨y,L,n,rfl,af,u,a1,aO,ar,an⟩,J.aC,J.ms⟩,e.fr x z.g (by rw[S];exact λa=>nomatch a),z.xm,λm D=>?_⟩,⟨λb o aR q=>e.hs b o (by simp only[Vo,V8,W4];rintro(a|a)<;>(subst a;exact aR (by assumption))) q,e.gs,e.sub,e.fr⟩⟩;by_cases av:m=y
    ·subst av;obtain⟨⟨_,_,q,_⟩,_⟩:=u;rw[q];exact λa=>nomatch a
    ·by_cases aB:m=L.d
     ·subst aB;obtain⟨_,q,_⟩:=u.dict;rw[q];exact λa=>nomatch a
     ·cases aD:H m with
      |none=>exact absurd aD (z.there m D)
      |some o=>rw[e.hs m o (by simp[av,aB]) aD];exact λa=>nomatch a
   refine mB (G:=G) (λj aj i t=>∃r',fW [y,L.d] H G i t/\kP K A t i y n r' L/\jP n j r=some r'/\∃ai:b9,aj=[some (.ref x),some (.int l),ai]) ⟨r,(al.refl ag).m,aZ,rfl,none,rfl⟩ ?_ ?_
   ·rintro j aj i t aT ⟨r',e,u,C,ai,rfl⟩;obtain⟨I,ae,ak⟩:=Y i t r' e u;have aS:∀a,a∈[y,L.d]->i a≠none:=λa as=>by
     simp only[Vo,V8,W4] at as;rcases as with rfl|rfl
     ·obtain⟨⟨_,_,q,_⟩,_⟩:=u;rw[q];exact λa=>nomatch a
     ·obtain⟨_,q,_⟩:=u.dict;rw[q];exact λa=>nomatch a
    exists cH I T.dM T.iz af ?_;obtain⟨aK,aN,a0,aG⟩:=u.obj;refine⟨y,aK,aN,rfl,a0,aG.m1,?_⟩;exists⟨t,y,n,r',L,rfl,e.sub,u,aW j r' aT C,λaI X aL W=>?_⟩;have N:=e.trans aL aS;walk_at "go";cases O:fG n r' with
    |none=>
     rw[O] at W;rw[Vh (show(!(none:Option dr).isSome)=true from rfl)];obtain⟨a',ao,aM⟩:=Y aI X r' N W;exists⟨dh,λp F=>?_⟩;have B:=al.new (o:=.aq [.int 0,.int (0+(j:Int))]) N.sub F;have aQ:gB n l.toNat r=(j,r'):=by have:=Bi n j (l.toNat-j-1) r r' C O;rwa[show j+(l.toNat-j-1+1)=l.toNat by lia] at this
     rw[aQ] at k;have R:=k9 (G:=X) (p:=p) [0,0+(j:Int)] (N.sub.free F);rw[show(0+(j:Int))=((j:Nat):Int) by lia] at R;refine k _ _ M _ (aM.trans B.m ao.there) (ao.up B) (λm D=>.inl D) ?_;have:(0+(j:Int))=((j:Nat):Int):=by lia
     rw[this];exact R
    |some aE=>rw[O] at W;rw[Vg (by simp)];exists⟨X,aE,N,W,by show(jP n j r).bind (fG n)=some aE;rw[C];exact O,_,rfl⟩
   ·rintro aj i t ⟨r',e,u,C,ai,rfl⟩;obtain⟨I,ae,ak⟩:=Y i t r' e u;exists⟨dh,λp F=>?_⟩;have B:=al.new (o:=.aq [.int 0,.int l]) e.sub F;rw[Bg n l.toNat r r' C] at k;have R:=k9 (G:=t) (p:=p) [0,l] (e.sub.free F);refine k _ _ M _ (ak.trans B.m ae.there) (ae.up B) (λm D=>.inl D) ?_;have:((l.toNat:Nat):Int)=l:=by lia
    rw[this];exact R
def Jy:Hp->aQ->Int×Int->Prop:=λ_ us b=>us=[.int b.1,.int b.2]
def tQ(s:bX)(b:Int×Int):Prop:=0<=b.1/\0<=b.2/\∀n r,s.net=some n->s.run=some r->(b.1=4->IntMulOk r.made r.aU.1/\0<r.aU.2)/\(b.1≠4->A8 n r.cF.aE b.1 b.2/\∀x,quantity n r.cF.aE b.1 b.2=some x->0<x.2)
def Ph(T:Tx P K mg A):ik P w K mg ah 44 A.dO "now" ["self","what","k"] (oY K A Jy tQ λs b=>(s,qe s b.1 b.2)):=by
 have aI:=Ew w ah T;have aM:=P1 w ah T;have aK:=EG w ah T;refine T.La.fn Ag (by rintro vs H Q E ⟨_,_,_,_,_,_,rfl,_,_,rfl,_⟩;rfl) λf bw bq bI s H vs Q E Y h=>?_;obtain⟨G,M,x,_,aD,⟨S,ab⟩,rfl,N,D,rfl,⟨bm,a6,av⟩,k⟩:=h
 try dsimp only at bm a6 av k
 obtain⟨bj,ev⟩:∃v,v=V.ref x:=⟨_,rfl⟩
 obtain⟨bk,am⟩:∃v,v=V.int S:=⟨_,rfl⟩
 obtain⟨bl,an⟩:∃v,v=V.int ab:=⟨_,rfl⟩
 rw[<-ev];dsimp only;rw[<-am, <-an];refine⟨_,(au (a_ (bg lh (ay K ap) d7)
    (aw (aJ (dk (a9 (gX g9 az)))))
    bx)
   (au (a_ (bg cp ax (aY T.Kf))
    (aw (bo 3 Ag.nd (jA (ay K ap) T.d5 aI Y (a9 (ay K (ay K ap))))))
    (aw (bo 3 Ag.nd (aL aM Y (f9 (ay K ap) (bZ (ay K (ay K (ay K ap))) ax aP))))))
   (au (a_ (bg lh aZ d7)
    (aw (aJ (dk (a9 (gX g9 az)))))
    bx)
   (aw (aJ (bF sH (dk (a9 az)) (EY (BK (K:=K)) (by rfl) T.Bq By (a9 (aL aK Y (a9 aZ)))))))))),?_⟩
 try simp only[bn]
 refine br [some bj,some bk,some bl,none] ?_;subst ev am an;obtain⟨bz,bA,t,ae⟩:=D.obj;have Fr:=ae.run;obtain⟨bL,a',J⟩:=ae.net;unfold qe at k;walk_at "go";cases aa:aD.run with
 |none=>rw[aa] at Fr k;refine cH t T.dM T.iz Fr ?_;exists bv rfl ?_;exists⟨by show 1<=sizeLine;decide,jp D (al.refl N) [-8] rfl k⟩
 |some r=>
  rw[aa] at Fr k;obtain⟨y,L,n,as,I,a0,bE,bC,bG,bD⟩:=Fr;rw[as] at k J
  try dsimp only at k
  obtain⟨bH,J⟩:=J;obtain⟨aS,aT⟩:=av n r as aa;refine cH t T.dM T.iz I ?_;exists bf (λad=>nomatch ad) ?_;obtain⟨⟨aj,ao,F,C⟩,bB,_⟩:=id a0;obtain⟨bM,a8,bd⟩:=C.made;cases bd;obtain⟨bp,bb,bh⟩:=C.aU;obtain⟨bN,ba,be⟩:=C.cF;have aG:∀(g e:Hp)(ac:V)(a:Fr),al H G g e->RF K e ac a->0<a.2->(∀u W ag v,fW M H G u W->gc K A W u ag x aD->(∀m,m∈ag->m∈M\/H m=none)->RL RI W v [0,(cn a).1,(cn a).2]->Q v u)->
    qH (gu zG (AK (dD (tC (.int 0)) eU)) (qE (FD K) (dD (lX (bW (RF K) (RF K) (λx=>0<x.2) cn) [] E0 (dD (cQ 3) eU)) eU))) {nx:=λx u=>Q V.aO u,rt:=Q} [some (.ref x),some (.int S),some (.int ab),some ac] g:=by
   intro g e ac a i a4 aV a7;exists⟨by show 1<=sizeLine;decide,λO aA=>?_⟩;have z:=al.new (o:=.aq [.int 0]) i.sub aA;have aB:RL RI (ai e O (.aq [.int 0])) (.ref O) [0]:=k9 [0] (i.sub.free aA);generalize ai g O (.aq [.int 0])=bt at z ⊢;generalize ai e O (.aq [.int 0])=aH at z aB;exists dG aH z.sub (z.up a4) aV λaN af bJ B a1=>?_;walk_at "go";obtain⟨q,rfl,j⟩:=a1;refine⟨q,_,rfl,.inr (bi.aF B.sub j),λl ar=>?_⟩;have p:=al.new (o:=.aq [.int (cn a).1,.int (cn a).2]) B.sub ar;have aC:RL RI (ai af l (.aq [.int (cn a).1,.int (cn a).2])) (.ref l) [(cn a).1,(cn a).2]:=k9 [(cn a).1,(cn a).2] (B.sub.free ar);generalize ai aN l (.aq [.int (cn a).1,.int (cn a).2])=bu at p ⊢;generalize ai af l (.aq [.int (cn a).1,.int (cn a).2])=bs at p aC;have aQ:=(z.trans B).trans p;refine r8 ((B.trans p).up aB) aC p.sub (by show 3<=sizeLine;decide) λq us j a2=>?_;have aR:=al.new (o:=.aq us) p.sub j;have ak:=(i.trans aQ).trans aR;exact a7 _ _ M _ ak.m (D.up ak) (λm X=>.inl X) (RL.new (p.sub.free j) a2)
  walk_at "go";by_cases c:S=4
  ·refine bv c ?_;rw[Vh c] at k;obtain⟨X,a5⟩:=aS c;exists cH t T.dM T.iz I ?_;refine⟨y,aj,ao,rfl,F,C.m2,?_⟩;exists cH t T.dM T.iz I ?_;refine cH F T.d5 T.vI a8 ?_;exists⟨G,y,aj,ao,bp,r.aU,r.made,rfl,N,F,bb,bh,X,λg e R i d=>?_⟩;exists bf (by obtain⟨_,rfl,_⟩:=d;exact λad=>nomatch ad) ?_;exists aG g e R _ i d a5 k
  ·refine bf c ?_;rw[Vg c] at k;obtain⟨aW,aX⟩:=aT c;exists cH t T.dM T.mM a' ?_;exists cH t T.dM T.iz I ?_;refine cH F T.d5 T.su ba ?_;refine x' T be N λbK a3=>?_;exists C3 G N J a3 rfl rfl aW λg e R i d=>?_;walk_at "go";cases j:quantity n r.cF.aE S ab with
   |none=>rw[j] at d k;have d:R=.aO:=d;subst d;refine bv rfl ?_;exists⟨by show 1<=sizeLine;decide,jp D i [-3] rfl k⟩
   |some a=>rw[j] at d k;obtain⟨bc,d⟩:=d;refine bf bc ?_;exists aG g e R a i d (aX a j) k
def tS(s:bX)(k:Int):Prop:=0<=k/\∀n r,s.net=some n->s.run=some r->r.cF.states.length=n.diodes.length/\(∀k:Nat,k<n.af.length->(n.af.getD k ae).kind=13->(k:Int)∈n.diodes)
def CW{G H:Hp}{v:V}{d:ao}{b:Int}{Q:VK}(h:RL RI G v d)(s:aB G H)(i:b∈d)(k:Q (.int (d.idxOf b:Nat)) H):tG K "list" v H/\zI K v [.int b] H Q:=by
 obtain⟨q,us,rfl,f,l⟩:=h;rw[nF l] at f;have g:=s _ _ f;obtain⟨o,p⟩:=uX i;refine⟨.inl ⟨rfl,_,aT.of g⟩,q,d.map V.int,.int b,d.idxOf b,.int b,rfl,rfl,aT.of g,rfl,?_,?_,?_,?_,k⟩
 ·rw[VO];intro u n;obtain⟨a,_,rfl⟩:=Vz.mp n;rfl
 ·rw[Vq,o];rfl
 ·show(b==b)=true;simp
 ·intro m r j c;rw[Vq] at c;cases e:d[m]? with
  |none=>rw[e] at c;exact nomatch c
  |some a=>rw[e] at c;simp only[Wi,VC] at c;subst c;have:=p m a j e;show(a==b)=false;simpa using this
def Nj{G H:Hp}{Q:VK}{u:V}{o:Option Int}{j:Int}(h:RO RI G u o)(k:Q (.bl (!decide (o=some j))) H):mQ u (.int j) H Q:=by
 cases o with
 |none=>have h:u=.aO:=h;subst h;exact⟨rfl,k⟩
 |some i=>
  obtain⟨_,h⟩:=h;cases h;refine⟨rfl,?_⟩;have:decide (V.int i=V.int j)=decide (some i=some j):=by
   rw[Wr];constructor
   ·intro q;cases q;rfl
   ·intro q;cases q;rfl
  rw[this];exact k
def Pf(T:Tx P K mg A):ik P w K mg ah 42 A.dO "is_on" ["self","k"] (oY K A xx tS λs k=>(s,pY s k)):=by
 have O:=zd w ah T;refine T.K_.fn RR (by rintro vs H Q E ⟨_,_,_,_,_,_,rfl,_,_,rfl,_⟩;rfl) λf aC av aO s H vs Q E Y h=>?_;obtain⟨G,M,x,_,ao,a,rfl,o,i,rfl,⟨ak,X⟩,k⟩:=h
 try dsimp only at k
 obtain⟨aq,ev⟩:∃v,v=V.ref x:=⟨_,rfl⟩
 obtain⟨ar,z⟩:∃v,v=V.int a:=⟨_,rfl⟩
 rw[<-ev, <-z];refine⟨_,(au (a_ (bg lh (ay K ap) d7)
    (aw (aJ (dk (a9 (gX g9 az)))))
    bx)
   (au (a_ (bg jf (jA (ay K ap) T.gJ O Y (a9 ax)) (aY T.pP))
    (aw (aJ (dk (a9 (gX g9 az)))))
    bx)
   (aw (aJ (dk (aV az (px K (ay K (ay K (ay K ap))) (sK (K:=K) Xa PySem.F.slot_list_index PySem.F.type_list_index (DT (K:=K)) (ay K (ay K ap)) (a9 ax))))))))),?_⟩
 try simp only[bn]
 refine br [some aq,some ar] ?_;subst ev z;obtain⟨aD,aF,j,p⟩:=i.obj;have Fr:=p.run;obtain⟨aS,I,e⟩:=p.net;unfold pY at k;walk_at "go";cases m:ao.run with
 |none=>rw[m] at Fr k;refine cH j T.dM T.iz Fr ?_;exists bv rfl ?_;exists⟨by show 1<=sizeLine;decide,jp i (al.refl o) [-8] rfl k⟩
 |some r=>
  rw[m] at Fr k;obtain⟨y,L,n,B,J,aa,aL,aI,aM,aK⟩:=Fr;rw[B] at k e
  try dsimp only at k
  obtain⟨aN,e⟩:=e;obtain⟨S,R⟩:=X n r B m;refine cH j T.dM T.iz J ?_;exists bf (λas=>nomatch as) ?_;obtain⟨⟨aE,aG,ag,N⟩,aH,_⟩:=id aa;obtain⟨aU,am,an⟩:=N.cF;exists cH j T.dM T.mM I ?_;refine yh e o rfl ?_;exists bT G o e rfl ak λaB aA aP b ab=>?_;exists Nj ab ?_;have g:=b.sub;have D:=b.hs _ _ j;have ai:=b.hs _ _ ag;have u:jX n a=some 13↔(a<(n.af.length:Nat)/\(n.af.getD a.toNat ae).kind=13):=by
   unfold jX;by_cases q:a<(n.af.length:Nat)
   ·rw[Vh q,VC];simp only[q,true_and]
   ·rw[Vg q];simp[q]
  walk_at "go";by_cases c:jX n a=some 13
  ·rw[Vg (lI c)];have t:=u.mp c;rw[Vh t] at k;have l:a∈n.diodes:=by
    have:=R a.toNat (by omega) t.2;rwa[show((a.toNat:Nat):Int)=a by omega] at this
   obtain⟨aj,_⟩:=uX l;have W:n.diodes.idxOf a<r.cF.states.length:=by rw[S];exact(Vj.mp aj).1
   exists cH D T.dM T.iz J ?_;refine cH ai T.d5 T.su am ?_;refine Cs T (b.up an) g λaT ad=>?_;exists cH D T.dM T.mM I ?_;refine pU T (b.up e) g λaR C=>?_;refine⟨(CW (Q:=λ_ _=>True) C g l trivial).1,?_⟩;exists(CW C g l ?_).2;refine CQ (n.diodes.idxOf a) (RS.rt ad) g rfl (getD_some (d:=0) W) λaQ ac=>?_;cases ac;exists⟨dh,jp i b [0,r.cF.states.getD (n.diodes.idxOf a) 0] rfl k⟩
  ·rw[Vh (kW c)];rw[Vg (λq=>c (u.mpr q))] at k;exists⟨by show 1<=sizeLine;decide,jp i b [-3] rfl k⟩
def tN(s:bX)(k:Int):Prop:=0<=k/\∀n r,s.net=some n->s.run=some r->k<(n.af.length:Nat)->cT (n.af.getD k.toNat ae).kind=true->kM r.di k.toNat/\0<(bY r.di k.toNat).1.2/\0<(bY r.di k.toNat).2.2
def Nf{d:L2.St}{H:Hp}{c:TE}{R:It->Hp->Prop}(h:c d H λx b=>∃a,x=.ref a/\(∃xs,bi K b a xs)/\R (xf K a) b):yr K c d H R:=h
def Pg(T:Tx P K mg A):ik P w K mg ah 43 A.dO "kept" ["self","k"] (oY K A xx tN λs k=>(s,p8 s k)):=by
 have aV:=zd w ah T;have aW:=PB w ah T;have aX:=EG w ah T;refine T.K'.fn Af (by rintro vs H Q E ⟨_,_,_,_,_,_,rfl,_,_,rfl,_⟩;rfl) λf bG bC bR s H vs Q E ad h=>?_;obtain⟨G,M,x,_,bw,B,rfl,aj,X,rfl,⟨aO,a'⟩,k⟩:=h
 try dsimp only at k
 obtain⟨bz,ev⟩:∃v,v=V.ref x:=⟨_,rfl⟩
 obtain⟨bA,aC⟩:∃v,v=V.int B:=⟨_,rfl⟩
 rw[<-ev, <-aC];refine⟨_,(au (a_ (bg lh (ay K ap) d7)
    (aw (aJ (dk (a9 (gX g9 az)))))
    bx)
   (au (a_ (jC (d8 (aL aW ad (a9 (jA (ay K ap) T.gJ aV ad (a9 ax))))))
    (aw (aJ (dk (a9 (gX g9 az)))))
    bx)
   (au (bo 2 Af.nd (dk (a9 az)))
   (au (dY VJ rfl (QN (K:=K) (px K (ay K (ay K ap)) ax)) (bU 3 Af.nd)
    (aw (dU (sK (K:=K) Xa PySem.F.slot_list_extend PySem.F.type_list_extend (OG (K:=K)) aP (a9 (aL aX ad (a9 aZ)))))))
   (aw (aJ aP)))))),?_⟩
 try simp only[bn]
 refine br [some bz,some bA,none,none] ?_;subst ev aC;obtain⟨bH,bJ,Y,an⟩:=X.obj;have Fr:=an.run;obtain⟨bZ,bm,N⟩:=an.net;unfold p8 at k;walk_at "go";cases ag:bw.run with
 |none=>rw[ag] at Fr k;refine cH Y T.dM T.iz Fr ?_;exists bv rfl ?_;exists⟨by show 1<=sizeLine;decide,jp X (al.refl aj) [-8] rfl k⟩
 |some r=>
  rw[ag] at Fr k;obtain⟨y,L,n,aI,aQ,bb,bO,bM,bP,bN⟩:=Fr;rw[aI] at k N
  try dsimp only at k
  obtain⟨bQ,N⟩:=N;refine cH Y T.dM T.iz aQ ?_;exists bf (λam=>nomatch am) ?_;obtain⟨⟨bI,bK,bj,aR⟩,bL,_⟩:=id bb;obtain⟨b1,bl,bs⟩:=aR.di;exists cH Y T.dM T.mM bm ?_;refine yh N aj rfl ?_;exists bT G aj N rfl aO λbE aT bV as bc=>?_;exists dG aT as.sub bc trivial λao aa bW a0 bd=>?_;cases bd;have I:=as.trans a0;have ar:u_ (jX n B)=true↔(B<(n.af.length:Nat)/\cT (n.af.getD B.toNat ae).kind=true):=by
   unfold jX u_;by_cases q:B<(n.af.length:Nat)
   ·rw[Vh q];simp only[q,true_and]
   ·rw[Vg q];simp[q]
  walk_at "go";cases c:u_ (jX n B) with
  |false=>rw[Vh (show(!false)=true from rfl)];rw[Vg (λq=>by rw[ar.mpr q] at c;cases c)] at k;exists⟨by show 1<=sizeLine;decide,jp X I [-3] rfl k⟩
  |true=>
   refine iP ?_;have ab:=ar.mp c;rw[Vh ab] at k;obtain⟨a6,aK,aM⟩:=a' n r aI ag ab.1 ab.2;exists⟨by show 1<=sizeLine;decide,λl ac=>?_⟩;have av:=al.kH (o:=.aq [.int 0]) I.sub ac;have aG:ai ao l (.aq [.int 0]) l=some (.aq [.int 0]):=aS;have a2:=I.sub.free ac;have aH:H l=none:=I.hs.free ac;generalize ai ao l (.aq [.int 0])=aY at av aG ⊢;have z:=I.trans av;have bh:=z.hs _ _ Y;have bk:=z.hs _ _ bj;have bt:=z.up bs;exists Nf ?_;exists cH bh T.dM T.iz aQ ?_;refine cH bk T.d5 T.vJ bl ?_;exists r_ bt z.sub aO a6 λb0 aN=>?_;generalize bY r.di B.toNat=d at k aK aM aN;obtain⟨p,a,b,rfl,W,a4,a5⟩:=aN;have bS:∀{i g:Hp},al aY aa i g->bi K i p [a,b]:=λe=>bi.aF (z.sub.trans e.hs) W;refine⟨p,rfl,⟨_,bi.aF z.sub W⟩,?_⟩;refine oF (n:=2) (G:=aa) (λj R i g=>al H G i g/\aB aa g/\bi K i p [a,b]/\∃ak:b9,i l=some (.aq ((([(0:Int)]++[(cn d.1).1,(cn d.1).2]++[(cn d.2).1,(cn d.2).2]).take (1+2*j)).map V.int))/\g l=none/\R=[some (.ref x),some (.int B),some (.ref l),ak]) ⟨z,aB.refl _,bi.aF z.sub W,none,aG,a2,rfl⟩ ?_ ?_ ?_ ?_
   ·rintro j R i g a7 ⟨_,_,q,_⟩;exact⟨[a,b],[a,b].getD j a,q,by
     have:j=0\/j=1:=by lia
     rcases this with rfl|rfl<;>rfl⟩
   ·rintro R i g ⟨_,_,q,_⟩;exact⟨[a,b],q,Vm _⟩
   ·rintro j u R i g bD a7 ⟨e,O,q,ak,J,S,rfl⟩ ⟨rfl,D⟩;have D:=D _ q;have bB:∃t,RF K g u t/\0<t.2/\(([(0:Int)]++[(cn d.1).1,(cn d.1).2]++[(cn d.2).1,(cn d.2).2]).take (1+2*j))++[(cn t).1,(cn t).2]=(([(0:Int)]++[(cn d.1).1,(cn d.1).2]++[(cn d.2).1,(cn d.2).2]).take (1+2*(j+1))):=by
     have:j=0\/j=1:=by lia
     rcases this with rfl|rfl
     ·simp only[List.getElem?_cons_zero,VC] at D;subst D;exact⟨d.1,Mo.mo O a4,aK,rfl⟩
     ·simp only[List.getElem?_cons_succ,List.getElem?_cons_zero,VC] at D;subst D;exact⟨d.2,Mo.mo O a5,aM,rfl⟩
    obtain⟨t,bu,bp,a1⟩:=bB;show qF _ _ _ _;exists jW J ?_;exists dG g e.sub bu bp λbF aU bX C be=>?_;walk_at "go";obtain⟨bq,rfl,ba⟩:=be;have a3:=C.hs _ _ J;have aE:=C.fr l S (by rw[J];exact λam=>nomatch am);refine⟨l,bq,_,_,rfl,rfl,a3,bi.aF C.sub ba,by
     have:(((([(0:Int)]++[(cn d.1).1,(cn d.1).2]++[(cn d.2).1,(cn d.2).2]).take (1+2*j)).map V.int).length+[V.int (cn t).1,V.int (cn t).2].length)<=1000:=by simp;lia
     exact WP (dB this),?_⟩
    walk_at "go";have aD:=(e.trans C).eV (o:=.aq ((([(0:Int)]++[(cn d.1).1,(cn d.1).2]++[(cn d.2).1,(cn d.2).2]).take (1+2*j)).map V.int++[V.int (cn t).1,V.int (cn t).2])) aH aE;refine⟨aU,aD,O.trans C.gs,bi.aF ((O.trans C.gs).trans aD.sub) W,_,?_,aE,rfl⟩
    ·rw[aS, <-a1,VN];rfl
   ·rintro R i g ⟨e,O,q,ak,J,S,rfl⟩;walk_at "go";have aA:=e.gr aH J S;refine k _ _ M _ aA.m (X.up aA) (λm a8=>.inl a8) ?_;exact k9 _ S
def Tb:TS:=λ_ _ _=>False
def Q_{X:Cx}{s:Stmt}:PS X s Tb:=λ_ _ _ _ _ _ h=>h.elim
def aT.aF{K:Frag}{H b:Hp}{a:Addr}{xs:aQ}(e:aB H b)(h:aT K H a xs):aT K b a xs:=by
 rcases h with (h|⟨o,h⟩)|h
 ·exact .inl (.inl (e _ _ h))
 ·exact .inl (.inr ⟨o,e _ _ h⟩)
 ·exact .inr h
def RA(K:Frag):Rl ao:=λH v xs=>∃p,v=.ref p/\aT K H p (xs.map V.int)
instance {K:Frag}:Mo (RA K):=⟨λs ⟨p,e,h⟩=>⟨p,e,aT.aF s h⟩⟩
structure tT(K:Frag)(G:Hp)(fs:cK)(ns:ao)(i:Nat):Prop where
 numbers:Fl fs "numbers" (RA K G) ns
 at_:fs.lookup ("at":Str)=some (V.int (i:Int))
 aC:fs.length<=2
 m1:fs.lookup ("take":Str)=none
 m2:fs.lookup ("take_row":Str)=none
 m3:fs.lookup ("ended":Str)=none
structure i8(K:Frag)(A:bV)(G H:Hp)(y:Addr)(l:ao):Prop where
 obj:∃dx fs ns i,H y=some (.aA A.fj dx fs)/\tT K G fs ns i/\ns.drop i=l/\i<=ns.length
 g:G y=none
def tT.aF{K:Frag}{G a:Hp}{b:cK}{c:ao}{i:Nat}(s:aB G a)(h:tT K G b c i):tT K a b c i:=⟨h.numbers.imp λ_ d=>Mo.mo s d,h.at_,h.aC,h.m1,h.m2,h.m3⟩
def i8.up{K:Frag}{A:bV}{G H d f:Hp}{y:Addr}{l:ao}{M:bL}(h:i8 K A G H y l)(e:fW M H G f d)(m:y∉M):i8 K A d f y l:=by obtain⟨j,k,n,i,a,b,c⟩:=h.obj;exact⟨⟨j,k,n,i,e.hs _ _ m a,b.aF e.gs,c⟩,e.fr y h.g (by rw[a];exact λo=>nomatch o)⟩
def M8{G H:Hp}{v:V}{xs:ao}{i:Int}{x:Int}{Q:VK}(j:Nat)(h:RA K G v xs)(s:aB G H)(a:i=(j:Int))(b:xs[j]? =some x)(k:Q (.int x) H):iC K v (.int i) H Q:=by obtain⟨p,rfl,h⟩:=h;exact .inl ⟨p,_,i,.int x,rfl,rfl,aT.aF s h,by rw[a];exact ui (by rw[Vq,b];rfl),k⟩
def Ni{G H:Hp}{v:V}{xs:ao}{Q:VK}(h:RA K G v xs)(s:aB G H)(k:Q (.int xs.length) H):qj K [v] H Q:=by obtain⟨p,rfl,h⟩:=h;exact⟨p,_,rfl,.inl (aT.aF s h),by rw[Vn];exact k⟩
def M9{G H:Hp}{v:V}{xs:ao}{a b:Nat}{Q:VK}(h:RA K G v xs)(s:aB G H)(j:a<=b)(k:∀f d w,al H G f d->RL RI d w ((xs.drop a).take (b-a))->Q w f):qk K v (some (a:Int)) (some (b:Int)) H Q:=by
 obtain⟨p,rfl,h⟩:=h;refine⟨p,_,rfl,aT.aF s h,λl g=>k _ _ _ (al.new s g) ?_⟩;have e:kl (xs.map V.int) (some (a:Int)) (some (b:Int))=((xs.drop a).take (b-a)).map V.int:=by
  unfold kl;rw[HT.qm,HT.qm,List.map_take,List.map_drop,Vn];rcases Nat.le_total xs.length a with i|i
  ·rw[List.drop_of_length_le (by simp;lia),List.drop_of_length_le (by simp;lia)];simp
  ·rw[Xp i];rcases Nat.le_total xs.length b with c|c
   ·rw[Nat.min_eq_right c,VV (by simp),VV (by simp;lia)]
   ·rw[Xp c]
 rw[e];exact k9 _ (s.free g)
inductive Ih(K:Frag)(A:bV)(vs:List V)(H:Hp)(Q:VK)(E:XK):Prop
 |mk (G y dx v2 ns) (_:vs=[.ref y,v2]) (_:aB G H) (_:G y=none) (_:H y=some (.aA A.fj dx [])) (_:RA K G v2 ns) (_:∀Z,bG y H G Z G->i8 K A G Z y ns->Q .aO Z):Ih K A vs H Q E
def O_(T:Tx P K mg A):kL P w K mg ah 41 A.fj ["self","numbers"] (Ih K A):=by
 refine T.K2.fn RK (by rintro vs H Q E ⟨_,_,_,_,_,rfl,_⟩;rfl) λf t r x s H vs Q E u h=>?_;obtain⟨G,y,i,d,o,rfl,p,j,n,m,k⟩:=h;obtain⟨q,ev⟩:∃v,v=V.ref y:=⟨_,rfl⟩
 rw[<-ev];refine⟨_,(au (cY K ap ax)
   (aw (cY K ap az))),?_⟩
 try simp only[bn]
 refine br [some q,some d] ?_;subst ev;have b:=iJ.start p n j;exists cX b.hx T.e_ T.vH (Vl b.l ∅) ?_;have c:=b.put "numbers" d;exists cX c.hx T.e_ T.oN (Vl c.l ∅) ?_;have a:=c.put "at" (.int 0);exists k _ a.e ⟨⟨i,_,o,0,a.hx,⟨⟨d,?_,m⟩,?_,a.l,?_,?_,?_⟩,rfl,We _⟩,a.g⟩
 all_goals walk_at "lk"
 all_goals (try rfl)
inductive Ib(K:Frag)(A:bV)(vs:List V)(H:Hp)(Q:VK)(E:XK):Prop
 |mk (G y l) (_:vs=[.ref y]) (_:aB G H) (_:i8 K A G H y l) (_:Q (.bl (decide (l=[]))) H):Ib K A vs H Q E
def O9(T:Tx P K mg A):ik P w K mg ah 41 A.fj "ended" ["self"] (Ib K A):=by
 refine T.K1.fn RJ (by rintro vs H Q E ⟨_,_,_,rfl,_⟩;rfl) λf o n x s H vs Q E u h=>?_;obtain⟨G,y,l,rfl,j,⟨⟨p,q,e,i,b,a,c,t⟩,r⟩,k⟩:=h;obtain⟨m,ev⟩:∃v,v=V.ref y:=⟨_,rfl⟩
 rw[<-ev];refine⟨_,(aw (aJ (ff zk (ay K ap) (eE K T.eu (ay K ap))))),?_⟩
 try simp only[bn]
 refine br [some m] ?_;subst ev;obtain⟨z,d,g⟩:=a.numbers;exists cH b T.e_ T.oN a.at_ ?_;exists cH b T.e_ T.vH d ?_;exists Ni g j ?_;walk_at "go";have:decide ((i:Int)>=(e.length:Int))=decide (l=[]):=by rw[Wr, <-c,List.drop_eq_nil_iff];omega
 rw[this];exact k
inductive Il(K:Frag)(A:bV)(vs:List V)(H:Hp)(Q:VK)(E:XK):Prop
 |mk (G y p l) (_:vs=[.ref y]) (_:aB G H) (_:i8 K A G H y (p::l)) (_:∀Z,bG y H G Z G->i8 K A G Z y l->Q (.int p) Z):Il K A vs H Q E
def MC{a l:ao}{i:Nat}{p:Int}(h:a.drop i=p::l):a[i]? =some p/\a.drop (i+1)=l/\i<a.length:=by
 have b:i<a.length:=by
  rcases Nat.lt_or_ge i a.length with q|q
  ·exact q
  ·rw[List.drop_eq_nil_of_le q] at h;exact nomatch h
 rw[W2 b] at h;simp only[List.cons.injEq] at h;exact⟨by rw[Ve b,h.1],h.2,b⟩
def Ev(T:Tx P K mg A):ik P w K mg ah 41 A.fj "take" ["self"] (Il K A):=by
 refine T.K3.fn RM (by rintro vs H Q E ⟨_,_,_,_,rfl,_⟩;rfl) λf O M W s H vs Q E S h=>?_;obtain⟨G,y,p,l,rfl,I,⟨⟨c,d,D,i,m,a,B,R⟩,n⟩,k⟩:=h;obtain⟨J,ev⟩:∃v,v=V.ref y:=⟨_,rfl⟩
 rw[<-ev];refine⟨_,(au (vU (K:=K) ap az uY)
   (aw (aJ (px K (ay K ap) (bF jg (ay K ap) az))))),?_⟩
 try simp only[bn]
 refine br [some J] ?_;subst ev;obtain⟨t,C,r⟩:=a.numbers;obtain⟨u,x,z⟩:=MC B;exists uR m T.e_ T.oN a.at_ ?_;exists uS ?_;refine⟨c,d,m,Vl a.aC ∅,?_⟩;have g:bG y H G (ai H y (.aA A.fj c (aD "at" (.int ((i:Int)+1)) d))) G:=bG.put I m n;have e:ai H y (.aA A.fj c (aD "at" (.int ((i:Int)+1)) d)) y=some (.aA A.fj c (aD "at" (.int ((i:Int)+1)) d)):=aS;generalize ai H y (.aA A.fj c (aD "at" (.int ((i:Int)+1)) d))=N at g e ⊢;obtain⟨j,b⟩:∃L,L=aD "at" (.int ((i:Int)+1)) d:=⟨_,rfl⟩
 rw[<-b] at e;have o:j.lookup ("at":Str)=some (V.int (((i+1:Nat)):Int)):=by rw[b];walk_at "lk"
 have q:j.lookup ("numbers":Str)=some t:=by rw[b];walk_at "lk";exact C
 have F:=g.sub;exists cH e T.e_ T.vH q ?_;exists cH e T.e_ T.oN o ?_;exists M8 i r F ⋯ u ?_;refine k _ g ⟨⟨c,j,D,i+1,e,⟨⟨t,q,r⟩,o,by rw[b,mP a.at_];exact a.aC,?_,?_,?_⟩,x,z⟩,n⟩
 ·rw[b];walk_at "lk";exact a.m1
 ·rw[b];walk_at "lk";exact a.m2
 ·rw[b];walk_at "lk";exact a.m3
inductive Ij(K:Frag)(A:bV)(vs:List V)(H:Hp)(Q:VK)(E:XK):Prop
 |mk (G y n l) (_:vs=[.ref y]) (_:aB G H) (_:i8 K A G H y (n::l)) (_:(0<=n/\n.toNat<=l.length)) (_:∀Z G' v,bG y H G Z G'->i8 K A G' Z y (l.drop n.toNat)->RL RI G' v (l.take n.toNat)->Q v Z):Ij K A vs H Q E
def Pa(T:Tx P K mg A):ik P w K mg ah 42 A.fj "take_row" ["self"] (Ij K A):=by
 have L:=Ev w ah T;refine T.K4.fn Hr (by rintro vs H Q E ⟨_,_,_,_,rfl,_⟩;rfl) λf aj ad aq s H vs Q E S h=>?_;obtain⟨G,y,n,l,rfl,ab,z,⟨an,am⟩,k⟩:=h;obtain⟨ac,ev⟩:∃v,v=V.ref y:=⟨_,rfl⟩
 rw[<-ev];refine⟨_,(au (bo 1 Hr.nd (jj ap T.e_ L S))
   (au (vU (K:=K) ap ax uY)
   (aw (aJ (qh (qx (K:=K)) (ay K ap) (lS (bF jg (ay K ap) ax)) (lS (ay K ap))))))),?_⟩
 try simp only[bn]
 refine br [some ac,none] ?_;subst ev;obtain⟨M,R,ao,i,X,J,_⟩:=z.obj;exists⟨y,M,R,rfl,X,J.m1,?_⟩;exists⟨G,y,n,l,rfl,ab,z,λm N W=>?_⟩;obtain⟨⟨e,g,D,a,r,b,q,ak⟩,x⟩:=W;obtain⟨I,Y,F⟩:=b.numbers;exists uR r T.e_ T.oN b.at_ ?_;exists uS ?_;refine⟨e,g,r,Vl b.aC ∅,?_⟩;have o:bG y H G (ai m y (.aA A.fj e (aD "at" (.int ((a:Int)+n)) g))) G:=N.iW r x;have c:ai m y (.aA A.fj e (aD "at" (.int ((a:Int)+n)) g)) y=some (.aA A.fj e (aD "at" (.int ((a:Int)+n)) g)):=aS;generalize ai m y (.aA A.fj e (aD "at" (.int ((a:Int)+n)) g))=af at o c ⊢;obtain⟨p,d⟩:∃u,u=aD "at" (.int ((a:Int)+n)) g:=⟨_,rfl⟩
 rw[<-d] at c;have t:p.lookup ("at":Str)=some (V.int ((a+n.toNat:Nat):Int)):=by rw[show((a+n.toNat:Nat):Int)=(a:Int)+n by lia,d];walk_at "lk"
 have C:p.lookup ("numbers":Str)=some I:=by rw[d];walk_at "lk";exact Y
 have aa:=o.sub;have al:l.length=D.length-a:=by rw[<-q,V9]
 exists cH c T.e_ T.vH C ?_;exists cH c T.e_ T.oN t ?_;exists cH c T.e_ T.oN t ?_;walk_at "go";have O:((a+n.toNat:Nat):Int)-n=((a:Nat):Int):=by lia
 rw[O];refine M9 F aa ⋯ λag ae ar j B=>?_;rw[show a+n.toNat-a=n.toNat by lia,q] at B;refine k _ _ _ (o.then c j) ⟨⟨e,p,D,a+n.toNat,j.hs _ _ c,⟨⟨I,C,j.up F⟩,t,by rw[d,mP b.at_];exact b.aC,?_,?_,?_⟩,?_,⋯⟩,j.fr y x (by rw[c];exact λu=>nomatch u)⟩ B
 ·rw[d];walk_at "lk";exact b.m1
 ·rw[d];walk_at "lk";exact b.m2
 ·rw[d];walk_at "lk";exact b.m3
 ·rw[<-q,List.drop_drop]
def dw(s:bX)(c:a8):bX×ao:=match c with
 |[[1],e,f]=>lG s e f
 |[[2,a,b,c,d]]=>j8 s a b c d
 |[[3,n]]=>lW s n
 |[[4,w,k]]=>(s,qe s w k)
 |[[5,k]]=>(s,pY s k)
 |[[6,k]]=>(s,p8 s k)
 |_=>(s,[])
def tI(s:bX)(c:a8):Prop:=match c with
 |[[1],e,f]=>AX s (e,f)
 |[[2,a,b,c,d]]=>tX s (a,b,c,d)
 |[[3,n]]=>tY s n
 |[[4,w,k]]=>tQ s (w,k)
 |[[5,k]]=>tS s k
 |[[6,k]]=>tN s k
 |_=>True
inductive l_:Int->List Int->List (List Int)->List Int->Prop
 |xG {n0 n1:Int} {a b:List Int} (h0:0<=n0/\n0.toNat<=a.length) (ha:a.drop n0.toNat=n1::b) (h1:0<=n1/\n1.toNat<=b.length):l_ 1 (n0::a) [[1],a.take n0.toNat,b.take n1.toNat] (b.drop n1.toNat)
 |start {x0 x1 x2 x3:Int} {t:List Int}:l_ 2 (x0::x1::x2::x3::t) [[2,x0,x1,x2,x3]] t
 |step {x0:Int} {t:List Int}:l_ 3 (x0::t) [[3,x0]] t
 |now {x0 x1:Int} {t:List Int}:l_ 4 (x0::x1::t) [[4,x0,x1]] t
 |on {x0:Int} {t:List Int}:l_ 5 (x0::t) [[5,x0]] t
 |kept {x0:Int} {t:List Int}:l_ 6 (x0::t) [[6,x0]] t
def FQ{l x s:ao}(h:PyFlat.row l=some (x,s)):∃n a,l=n::a/\(0<=n/\n.toNat<=a.length)/\x=a.take n.toNat/\s=a.drop n.toNat:=by
 cases l with
 |nil=>simp[PyFlat.row] at h
 |cons n a=>
  have h:(if 0<=n/\n.toNat<=a.length then some (a.take n.toNat,a.drop n.toNat) else none)=some (x,s):=h;split at h
  ·rename_i q;simp only[VC,Prod.mk.injEq] at h;exact⟨n,a,rfl,q,h.1.symm,h.2.symm⟩
  ·simp at h
def EV{p:Int}{r:ao}{c:a8}{d:ao}(h:PyFlat.call PyWrwirc.shape (p::r)=some (c,d)):l_ p r c d:=by
 have h:(match PyWrwirc.shape p with
  |none=>none
  |some (n,k)=>if r.length<n then none else match PyFlat.rows k (r.drop n) with
   |none=>none
   |some (xs,d)=>some ((p::r.take n)::xs,d))=some (c,d):=h
 unfold PyWrwirc.shape at h;by_cases i:p=1
 ·subst i;simp only[WF] at h;rw[Vg ⋯] at h;rw[Xe,List.take_zero] at h;unfold PyFlat.rows at h;cases f:PyFlat.row r with
  |none=>rw[f] at h;simp at h
  |some w=>
   obtain⟨e,y⟩:=w;rw[f] at h;simp only[PyFlat.rows] at h;cases g:PyFlat.row y with
   |none=>rw[g] at h;simp at h
   |some x=>obtain⟨s,B⟩:=x;rw[g] at h;simp only[VC,Prod.mk.injEq] at h;obtain⟨z,a,rfl,t,rfl,rfl⟩:=FQ f;obtain⟨A,b,v,u,rfl,rfl⟩:=FQ g;obtain⟨rfl,rfl⟩:=h;exact .xG t v u
 ·rw[Vg i] at h;by_cases j:p=2
  ·subst j
   match r,h with
   |e::s::C::D::t',h=>simp[PyFlat.rows] at h;obtain⟨rfl,rfl⟩:=h;exact .start
   |[],h=>simp at h
   |[_],h=>simp at h
   |[_,_],h=>simp at h
   |[_,_,_],h=>simp at h
  ·rw[Vg j] at h;by_cases l:p=3
   ·subst l
    match r,h with
    |e::t',h=>simp[PyFlat.rows] at h;obtain⟨rfl,rfl⟩:=h;exact .step
    |[],h=>simp at h
   ·rw[Vg l] at h;by_cases m:p=4
    ·subst m
     match r,h with
     |e::s::t',h=>simp[PyFlat.rows] at h;obtain⟨rfl,rfl⟩:=h;exact .now
     |[],h=>simp at h
     |[_],h=>simp at h
    ·rw[Vg m] at h;by_cases o:p=5
     ·subst o
      match r,h with
      |e::t',h=>simp[PyFlat.rows] at h;obtain⟨rfl,rfl⟩:=h;exact .on
      |[],h=>simp at h
     ·rw[Vg o] at h;by_cases q:p=6
      ·subst q
       match r,h with
       |e::t',h=>simp[PyFlat.rows] at h;obtain⟨rfl,rfl⟩:=h;exact .kept
       |[],h=>simp at h
      ·rw[Vg q] at h;simp at h
def gc.wR{G H p l:Hp}{M:bL}{x y:Addr}{s:bX}(h:gc K A G H M x s)(e:bG y H G l p)(V:y∉M):gc K A p l M x s:=by
 obtain⟨F,J,w,D⟩:=h.obj;have k:∀m,m∈M->∀o,H m=some o->l m=some o:=λm j o q=>e.hs m o (λf=>V (f▸j)) q;refine⟨⟨F,J,k x h.xm _ w,?_⟩,e.fr x h.g (by rw[w];exact λf=>nomatch f),h.xm,λm j=>?_⟩
 ·obtain⟨⟨v,P,Q⟩,i,R,S⟩:=D;refine⟨⟨v,P,Mo.mo e.gs Q⟩,?_,R,S⟩;cases u:s.run with
  |none=>rw[u] at i;exact i
  |some r=>rw[u] at i;obtain⟨f,L,n,a,b,c,z,t,d⟩:=i;refine⟨f,L,n,a,b,?_,z,t,d⟩;obtain⟨⟨I,N,B,E⟩,O,⟨ab,C,W,X,Y⟩,ac,ad,ae,af⟩:=c;exact⟨⟨I,N,k f z _ B,E.aF e.gs⟩,e.fr f O (by rw[B];exact λq=>nomatch q),⟨ab,k _ t _ C,e.fr _ W (by rw[C];exact λq=>nomatch q),X,λaa T=>let ⟨ag,a,b,c⟩:=Y aa T;⟨ag,a,b,Mo.mo e.gs c⟩⟩,ac,ad,ae,af⟩
 ·cases q:H m with
  |none=>exact absurd q (h.there m j)
  |some o=>rw[k m j o q];exact λf=>nomatch f
inductive Ig(K:Frag)(A:bV)(vs:List V)(H:Hp)(Q:VK)(E:XK):Prop
 |mk (G M x y s p l c t) (_:vs=[.ref x,.ref y]) (_:aB G H) (_:gc K A G H M x s) (_:i8 K A G H y (p::l)) (_:y∉M) (_:l_ p l c t) (_:tI s c) (_:∀Z G' M' v,fW (y::M) H G Z G'->gc K A G' Z M' x (dw s c).1->(∀m,m∈M'->m∈M\/H m=none)->i8 K A G' Z y t->RL RI G' v (dw s c).2->Q v Z):Ig K A vs H Q E
def Pq(T:Tx P K mg A):Fn P w K mg ah 50 "answer_next" ["simulator","reader"] (Ig K A):=by
 have aa:=Ev w ah T;have aW:=Pa w ah T;have bb:=Pd w ah T;have bh:=Pj w ah T;have bi:=Pk w ah T;have be:=Ph w ah T;have bc:=Pf w ah T;have bd:=Pg w ah T;refine T.Ll.fn mR (by rintro vs H Q E ⟨_,_,_,_,_,_,_,_,_,rfl,_⟩;rfl) λf b' b_ ce s H vs Q E n h=>?_;obtain⟨G,M,x,y,ad,p,l,c,a',rfl,a8,a2,a1,aN,bJ,am,k⟩:=h;obtain⟨b4,ev⟩:∃v,v=V.ref x:=⟨_,rfl⟩
 obtain⟨b5,a0⟩:∃v,v=V.ref y:=⟨_,rfl⟩
 rw[<-ev, <-a0];refine⟨_,(au (bo 2 mR.nd (jj ax T.e_ aa n))
   (au (a_ (bg cp aP (aY T.JY))
    (au (bo 3 mR.nd (jj ax T.e_ aW n))
   (au (bo 4 mR.nd (jj ax T.e_ aW n))
   (aw (aJ (jA ap T.dM bb n (aV aZ bP))))))
    bx)
   (au (a_ (bg cp aP (aY T.Kc))
    (au (bo 5 mR.nd (jj ax T.e_ aa n))
   (au (bo 6 mR.nd (jj ax T.e_ aa n))
   (au (bo 7 mR.nd (jj ax T.e_ aa n))
   (au (bo 8 mR.nd (jj ax T.e_ aa n))
   (aw (aJ (jA ap T.dM bh n (f9 da (bZ eF gZ vW)))))))))
    bx)
   (au (a_ (bg cp aP (aY T.Kd))
    (aw (aJ (jA ap T.dM bi n (a9 (jj ax T.e_ aa n)))))
    bx)
   (au (a_ (bg cp aP (aY T.J7))
    (au (bo 9 mR.nd (jj ax T.e_ aa n))
   (aw (aJ (jA ap T.dM be n (aV Fu (jj ax T.e_ aa n))))))
    bx)
   (au (a_ (bg cp aP (aY T.J3))
    (aw (aJ (jA ap T.dM bc n (a9 (jj ax T.e_ aa n)))))
    bx)
   (au (a_ (bg cp aP (aY T.J4))
    (aw (aJ (jA ap T.dM bd n (a9 (jj ax T.e_ aa n)))))
    bx)
   (aw Q_)))))))),?_⟩
 try simp only[bn]
 refine br [some b4,some b5,none,none,none,none,none,none,none,none] ?_;subst ev a0;have ca:y≠x:=λac=>aN (ac▸a2.xm);have i:∀(g Y:Hp)(m:Str)(a3:ao),m∈fv->bG y H G g Y->i8 K A Y g y a3->(∃aK aG,g x=some (.aA A.dO aK aG)/\aG.lookup m=none)/\gc K A Y g M x ad/\(∃ar ai,g y=some (.aA A.fj ar ai)/\ai.lookup ("take":Str)=none/\ai.lookup ("take_row":Str)=none)/\g y≠none:=λg Y m a3 D e r=>by have aQ:=a2.wR e aN;obtain⟨aK,aG,bN,ba⟩:=aQ.obj;obtain⟨⟨ar,ai,_,_,aH,aT,_⟩,_⟩:=r;exact⟨⟨aK,aG,bN,ba.ms m D⟩,aQ,⟨ar,ai,aH,aT.m1,aT.m2⟩,by rw[aH];exact λac=>nomatch ac⟩
 have ak:∀(g Y z u:Hp)(C:bL)(v:V),bG y H G g Y->i8 K A Y g y a'->fW M g Y z u->gc K A u z C x (dw ad c).1->(∀m,m∈C->m∈M\/g m=none)->RL RI u v (dw ad c).2->Q v z:=λg Y z u C v e r B J D I=>by
  have az:=(i g Y "begin" a' (by simp[fv]) e r)
  refine k z u C v ((e.m (by simp)).trans ⟨λb o bE q=>B.hs b o (λac=>bE (by simp[ac])) q,B.gs,B.sub,B.fr⟩ (λac aO=>?_)) J (λm bF=>?_) (r.up B aN) I
  ·rcases Vo.mp aO with rfl|aO
   ·exact az.2.2.2
   ·exact az.2.1.there ac aO
  ·rcases D m bF with q|q
   ·exact .inl q
   ·right;cases b2:H m with
    |none=>rfl
    |some o=>
     by_cases ac:m=y
     ·subst ac;exact absurd q az.2.2.2
     ·rw[e.hs m o ac b2] at q;exact nomatch q
 obtain⟨⟨_,_,_,_⟩,_,⟨ar,ai,aH,bU,cc⟩,cb⟩:=i H G "begin" _ (by simp[fv]) (al.refl a8).x a1;exists⟨y,ar,ai,rfl,aH,bU,?_⟩;exists⟨G,y,p,l,rfl,a8,a1,λg j L=>?_⟩;walk_at "go";cases bJ with
 | @xG a4 a5 a b bC bD az=>refine bv rfl ?_;obtain⟨_,aQ,⟨N,S,X,ab,aF⟩,W⟩:=i g G "begin" _ (by simp[fv]) j L;exists⟨y,N,S,rfl,X,aF,?_⟩;exists⟨G,y,a4,a,rfl,j.sub,L,bC,λF aU b6 R t bK=>?_⟩;have d:=j.trans R W;rw[bD] at t;obtain⟨_,an,⟨as,ay,aD,cd,b1⟩,aB⟩:=i F aU "begin" _ (by simp[fv]) d t;exists⟨y,as,ay,rfl,aD,b1,?_⟩;exists⟨aU,y,a5,b,rfl,d.sub,t,az,λag aI b7 aj af bM=>?_⟩;have O:=d.trans aj aB;obtain⟨⟨bl,bw,bQ,bW⟩,aR,_,_⟩:=i ag aI "begin" _ (by simp[fv]) O af;exists⟨x,bl,bw,rfl,bQ,bW,?_⟩;exists⟨aI,M,x,_,ad,(a.take a4.toNat,b.take a5.toNat),rfl,O.sub,aR,⟨b6,b7,rfl,Mo.mo aj.gs bK,bM⟩,am,λz u C v B J D I=>ak ag aI z u C v O af B J D I⟩
 | @start ae aS b8 b9=>refine bf ∅ ?_;exists bv rfl ?_;obtain⟨_,_,⟨N,S,X,ab,_⟩,W⟩:=i g G "begin" _ (by simp[fv]) j L;exists⟨y,N,S,rfl,X,ab,?_⟩;exists⟨G,y,_,_,rfl,j.sub,L,λF R t=>?_⟩;have d:=j.trans R W;obtain⟨_,_,⟨as,ay,aD,aF,_⟩,aB⟩:=i F G "begin" _ (by simp[fv]) d t;exists⟨y,as,ay,rfl,aD,aF,?_⟩;exists⟨G,y,_,_,rfl,d.sub,t,λag aj af=>?_⟩;have O:=d.trans aj aB;obtain⟨_,_,⟨bp,bA,bS,bY,_⟩,bH⟩:=i ag G "begin" _ (by simp[fv]) O af;exists⟨y,bp,bA,rfl,bS,bY,?_⟩;exists⟨G,y,_,_,rfl,O.sub,af,λbj bs a6=>?_⟩;have aL:=O.trans bs bH;obtain⟨_,_,⟨bq,bB,bT,b0,_⟩,bI⟩:=i bj G "begin" _ (by simp[fv]) aL a6;exists⟨y,bq,bB,rfl,bT,b0,?_⟩;exists⟨G,y,_,_,rfl,aL.sub,a6,λaX bt a7=>?_⟩;have aM:=aL.trans bt bI;obtain⟨⟨bm,bz,bR,bX⟩,b3,_,_⟩:=i aX G "start" _ (by simp[fv]) aM a7;exists⟨x,bm,bz,rfl,bR,bX,?_⟩;exists⟨G,M,x,_,ad,(ae,aS,b8,b9),rfl,aM.sub,b3,rfl,am,λz u C v B J D I=>ak aX G z u C v aM a7 B J D I⟩
 | @step ae=>refine bf ∅ ?_;exists bf ∅ ?_;exists bv rfl ?_;obtain⟨⟨aq,av,aC,aE⟩,_,⟨N,S,X,ab,_⟩,W⟩:=i g G "step" _ (by simp[fv]) j L;exists⟨x,aq,av,rfl,aC,aE,?_⟩;exists⟨y,N,S,rfl,X,ab,?_⟩;exists⟨G,y,_,_,rfl,j.sub,L,λF R t=>?_⟩;have d:=j.trans R W;obtain⟨_,an,_,_⟩:=i F G "step" _ (by simp[fv]) d t;exists⟨G,M,x,_,ad,ae,rfl,d.sub,an,rfl,am,λz u C v B J D I=>ak F G z u C v d t B J D I⟩
 | @now ae aS=>refine bf ∅ ?_;exists bf ∅ ?_;exists bf ∅ ?_;exists bv rfl ?_;obtain⟨_,_,⟨N,S,X,ab,_⟩,W⟩:=i g G "now" _ (by simp[fv]) j L;exists⟨y,N,S,rfl,X,ab,?_⟩;exists⟨G,y,_,_,rfl,j.sub,L,λF R t=>?_⟩;have d:=j.trans R W;obtain⟨⟨bk,bu,bO,bV⟩,_,⟨as,ay,aD,aF,_⟩,aB⟩:=i F G "now" _ (by simp[fv]) d t;exists⟨x,bk,bu,rfl,bO,bV,?_⟩;exists⟨y,as,ay,rfl,aD,aF,?_⟩;exists⟨G,y,_,_,rfl,d.sub,t,λag aj af=>?_⟩;have O:=d.trans aj aB;obtain⟨_,aR,_,_⟩:=i ag G "now" _ (by simp[fv]) O af;exists⟨G,M,x,_,ad,(ae,aS),rfl,O.sub,aR,rfl,am,λz u C v B J D I=>ak ag G z u C v O af B J D I⟩
 | @on ae=>refine bf ∅ ?_;exists bf ∅ ?_;exists bf ∅ ?_;exists bf ∅ ?_;exists bv rfl ?_;obtain⟨⟨aq,av,aC,aE⟩,_,⟨N,S,X,ab,_⟩,W⟩:=i g G "is_on" _ (by simp[fv]) j L;exists⟨x,aq,av,rfl,aC,aE,?_⟩;exists⟨y,N,S,rfl,X,ab,?_⟩;exists⟨G,y,_,_,rfl,j.sub,L,λF R t=>?_⟩;have d:=j.trans R W;obtain⟨_,an,_,_⟩:=i F G "is_on" _ (by simp[fv]) d t;exists⟨G,M,x,_,ad,ae,rfl,d.sub,an,rfl,am,λz u C v B J D I=>ak F G z u C v d t B J D I⟩
 | @kept ae=>refine bf ∅ ?_;exists bf ∅ ?_;exists bf ∅ ?_;exists bf ∅ ?_;exists bf ∅ ?_;exists bv rfl ?_;obtain⟨⟨aq,av,aC,aE⟩,_,⟨N,S,X,ab,_⟩,W⟩:=i g G "kept" _ (by simp[fv]) j L;exists⟨x,aq,av,rfl,aC,aE,?_⟩;exists⟨y,N,S,rfl,X,ab,?_⟩;exists⟨G,y,_,_,rfl,j.sub,L,λF R t=>?_⟩;have d:=j.trans R W;obtain⟨_,an,_,_⟩:=i F G "kept" _ (by simp[fv]) d t;exists⟨G,M,x,_,ad,ae,rfl,d.sub,an,rfl,am,λz u C v B J D I=>ak F G z u C v d t B J D I⟩
def iA:bX->List a8->a8
 |_,[]=>[]
 |s,c::r=>(dw s c).2::iA (dw s c).1 r
def qO:bX->List a8->Prop
 |_,[]=>True
 |s,c::r=>tI s c/\qO (dw s c).1 r
def Ja(a:ao)(r:a8):PyFlat.told (a::r)=((a.length:Int)::a)++PyFlat.told r:=by unfold PyFlat.told;rw[VZ]
inductive tj(K:Frag)(vs:List V)(H:Hp)(Q:VK)(E:XK):Prop
 |mk (G v1 ns f cs) (_:vs=[v1]) (_:aB G H) (_:RA K G v1 ns) (_:PyFlat.calls PyWrwirc.shape f ns=some cs) (_:qO ⟨none,none⟩ cs) (_:(PyFlat.told (iA ⟨none,none⟩ cs)).length<=1000) (_:∀Z G' v,aB G' Z->RL RI G' v (PyFlat.told (iA ⟨none,none⟩ cs))->Q v Z):tj K vs H Q E
def Pr(T:Tx P K mg A):∃f W,mg "answers"=some (.ref f)/\(∀(s:Shared)(us:bD),us.length=(["calls"]:cR).length->BindsTo s W ⟨us,[]⟩ ((["calls"]:cR).zip us))/\∀ah:Heap,gw P w K mg ah jl 51 f W ["calls"] (tj K):=by
 obtain⟨f,W,aC,m,_⟩:=T.Lm.ex;refine⟨f,W,m,λs us bU=>?_,λah=>?_⟩
 ·obtain⟨ci,cj,kV,b',cm,b_,bl,aG,ck,rfl,cg,cb⟩:=aC.ex;exact match us,bU with|[_],_=>.of_eq rfl
 have bh:=Pe w ah T;have bg:=O_ w ah T;have bf:=O9 w ah T;have bi:=Pq w ah T;refine aC.ok sV (by rintro vs H Q E ⟨_,_,_,_,_,rfl,_⟩;rfl) λbl b6 cl s H vs Q E aa h=>?_;obtain⟨G,ab,a7,bt,B,rfl,ba,aK,bF,bE,cf,k⟩:=h;refine⟨_,(au (bo 1 sV.nd (QF bh T.Op aa))
   (au (bo 2 sV.nd (nG bg T.On aa (a9 ap)))
   (au (bo 3 sV.nd (dk j1))
   (au (Fo VJ (jC (d8 (jj aP T.e_ bf aa)))
    (au (bo 4 sV.nd (aL bi aa (aV ax aP)))
   (au (dU (lQ K aZ (eE K T.eu bP)))
   (aw (dU (sK (K:=K) Xa PySem.F.slot_list_extend PySem.F.type_list_extend OH aZ (a9 bP)))))))
   (aw (aJ aZ)))))),?_⟩
 try simp only[bn]
 refine br [some ab,none,none,none,none] ?_;walk_at "go";intro x bm a2 bI cd;refine⟨G,x,bm,rfl,qd ba a2 bI,ba.free a2,aS,λz bq aX=>⟨rfl,?_⟩⟩;have a_:=bq.sub;walk_at "go";intro y ae N aR ce;have a5:y≠x:=λi=>by obtain⟨_,_,q,_⟩:=aX.obj;rw[i,q] at N;exact nomatch N
 have az:al z G (ai (ai z ae (.own y)) y (.aA A.fj ae [])) G:=⟨λb o q=>by rw[bA (dI q N),bA (dI q aR)];exact q,aB.refl _,qd a_ N aR,λb q _=>q⟩
 have bS:=aX.up az;refine⟨G,y,ae,ab,a7,rfl,az.sub,a_.free N,aS,aK,λaF aH aU=>⟨rfl,?_⟩⟩;have aY:=bS.wR aH (by simpa using a5);have a':=aH.sub;exists⟨We _,λd C=>?_⟩;have O:=al.kH (o:=.aq []) a' C;have aN:ai aF d (.aq []) d=some (.aq []):=aS;have bv:=a'.free C;have bw:d≠x:=λi=>by obtain⟨_,_,q,_⟩:=aY.obj;rw[i,q] at C;exact nomatch C
 have ak:d≠y:=λi=>by obtain⟨_,_,_,_,q,_⟩:=aU.obj;rw[i,q] at C;exact nomatch C
 have a0:=aY.up O;have aW:=aU.up (M:=[]) O.m (by simp);generalize ai aF d (.aq [])=b8 at O aN a0 aW ⊢;have b3:=O.sub;exists⟨λm bb v=>∃(n:Hp)(M:bL)(e:bX)(l:ao)(r:List a8)(g:ao)(t:Nat)(u:b9),m=l.length/\aB n v/\gc K A n v M x e/\i8 K A n v y l/\y∉M/\v d=some (.aq (g.map V.int))/\n d=none/\d∉M/\PyFlat.calls PyWrwirc.shape t l=some r/\qO e r/\g++PyFlat.told (iA e r)=PyFlat.told (iA ⟨none,none⟩ B)/\bb=[some ab,some (.ref x),some (.ref y),some (.ref d),u],
  ⟨_,G,[x],⟨none,none⟩,a7,B,[],bt,none,rfl,b3,a0,aW,by simpa using a5,aN,bv,by simpa using bw,bF,bE,rfl,rfl⟩,?_⟩
 rintro m bb v ⟨n,M,e,l,r,g,t,u,rfl,ay,bR,ar,a3,Y,aI,aO,j,bx,D,rfl⟩;obtain⟨bp,bu,_,_,a4,bd,_⟩:=ar.obj;exists⟨y,bp,bu,rfl,a4,bd.m3,?_⟩;exists⟨n,y,l,rfl,ay,ar,?_⟩;walk_at "go";cases l with
 |nil=>
  rw[Vg (by simp)];walk_at "go";have bH:r=[]:=by cases t<;>simp[PyFlat.calls] at j<;>exact j
  subst bH;have D:g=PyFlat.told (iA ⟨none,none⟩ B):=by rw[<-D];simp[iA,PyFlat.told]
  refine k v (ai n d (.aq (g.map V.int))) _ (λb o q=>?_) ?_
  ·by_cases i:b=d
   ·subst i;rw[aS] at q;rw[<-q];exact Y
   ·rw[bA i] at q;exact ay b o q
  ·rw[<-D];exact k9 g aI
 |cons p l=>
  rw[Vh (by simp)];cases t with
  |zero=>simp[PyFlat.calls] at j
  |succ t=>
   have j:(match PyFlat.call PyWrwirc.shape (p::l) with
    |none=>none
    |some (c,I)=>match PyFlat.calls PyWrwirc.shape t I with
     |none=>none
     |some B=>some (c::B))=some r:=j
   cases am:PyFlat.call PyWrwirc.shape (p::l) with
   |none=>rw[am] at j;simp at j
   |some aG=>
    obtain⟨c,I⟩:=aG;rw[am] at j;simp only at j;cases an:PyFlat.calls PyWrwirc.shape t I with
    |none=>rw[an] at j;simp at j
    |some ad=>
     rw[an] at j;simp only[VC] at j;subst j;have aT:=EV am;have bT:I.length<=l.length:=by
      cases aT with
      | @xG bZ ch a b ca bz aK=>
       have:(a.drop bZ.toNat).length=b.length+1:=by rw[bz];rfl
       rw[V9] at this;rw[V9,Vu];lia
      |start=>simp;lia
      |step=>simp
      |now=>simp;lia
      |on=>simp
      |kept=>simp
     refine⟨λbc J=>∃(n:Hp)(M:bL)(e:bX)(av:ao)(r:List a8)(g:ao)(t:Nat)(u:b9),av.length<=l.length/\aB n J/\gc K A n J M x e/\i8 K A n J y av/\y∉M/\J d=some (.aq (g.map V.int))/\n d=none/\d∉M/\PyFlat.calls PyWrwirc.shape t av=some r/\qO e r/\g++PyFlat.told (iA e r)=PyFlat.told (iA ⟨none,none⟩ B)/\bc=[some ab,some (.ref x),some (.ref y),some (.ref d),u],?_,?_⟩
     ·rintro bc J ⟨be,bj,b2,a6,bk,b4,bs,b5,cc,b1⟩;exact⟨a6.length,by simp;lia,be,bj,b2,a6,bk,b4,bs,b5,rfl,b1⟩
     obtain⟨bB,bC⟩:=bx;have as:=Wk List.length D;rw[Vw] at as;have bK:iA e (c::ad)=(dw e c).2::iA (dw e c).1 ad:=rfl;rw[bK,Ja] at D as;rw[Vw,Vu] at as;exists⟨n,M,x,y,e,p,l,c,I,rfl,ay,bR,ar,a3,aT,bB,λz aD ac cn S bO aQ bM a1=>?_⟩;have ag:z d=some (.aq (g.map V.int)):=S.hs _ _ (by simp only[Vo];rintro(q|q);exact ak q;exact aO q) Y;have af:aD d=none:=S.fr d aI (by rw[Y];exact λi=>nomatch i);have aj:d∉ac:=λi=>by
      rcases aQ d i with q|q
      ·exact aO q
      ·rw[Y] at q;exact nomatch q
     have bY:y∉ac:=λi=>by
      rcases aQ y i with q|q
      ·exact a3 q
      ·rw[a4] at q;exact nomatch q
     exists jW ag ?_;exists eZ a1 S.sub ?_;exists lM ag (by rw[Vn];exact dB ⋯) ?_;have L:=bG.put (o':=.aq (g.map V.int++[.int ((dw e c).2.length:Nat)])) S.sub ag af;have X:ai z d (.aq (g.map V.int++[.int ((dw e c).2.length:Nat)])) d=some (.aq (g.map V.int++[.int ((dw e c).2.length:Nat)])):=aS;generalize ai z d (.aq (g.map V.int++[.int ((dw e c).2.length:Nat)]))=aE at L X ⊢;have bQ:=bO.wR L aj;have bN:=bM.up (M:=[d]) (L.m (by simp)) (by simpa using λi=>ak i.symm);exists jW X ?_;walk_at "go";obtain⟨b0,us,rfl,bJ,bV⟩:=a1;have bW:=nF bV;subst bW;refine⟨d,b0,_,_,rfl,rfl,X,L.sub _ _ bJ,WP (dB (by simp;lia)),?_⟩;have R:=bG.put (o':=.aq ((g.map V.int++[.int ((dw e c).2.length:Nat)])++(dw e c).2.map V.int)) L.sub X af;have aM:ai aE d (.aq ((g.map V.int++[.int ((dw e c).2.length:Nat)])++(dw e c).2.map V.int)) d=some (.aq ((g++((dw e c).2.length:Int)::(dw e c).2).map V.int)):=by rw[aS];simp
     generalize ai aE d (.aq ((g.map V.int++[.int ((dw e c).2.length:Nat)])++(dw e c).2.map V.int))=b7 at R aM ⊢;exists⟨aD,ac,(dw e c).1,I,ad,_,t,_,bT,R.sub,bQ.wR R aj,bN.up (M:=[d]) (R.m (by simp)) (by simpa using λi=>ak i.symm),bY,aM,af,aj,an,bC,?_,rfl⟩;rw[<-D];simp
end Nt
namespace Nt
noncomputable def fr(x:Fr):Rat:=(x.1:Rat)/(x.2:Rat)
def gO(laws:cv)(b:aG):List Wh.Row:=List.zipWith (λa x=>(a.map fr,fr x)) laws b
structure kh(n:Nat)(laws:cv)(b:aG):Prop where
 aC:laws.length=n
 yI:b.length=n
 qN:∀law,law∈laws->law.length=n
 den:∀law,law∈laws->∀x,x∈law->0<x.2
 xS:∀x,x∈b->0<x.2
def vP{a:Int}(h:0<a):(0:Rat)<(a:Rat):=by exact_mod_cast h
def lg{a:Int}(h:0<a):(a:Rat)≠0:=by have:=vP h;grind
def oG{x y:Fr}(a:0<x.2)(b:0<y.2):fr (plus x y)=fr x+fr y:=by have:=lg a;have:=lg b;unfold fr plus;simp only[Rat.intCast_add,V1];grind
def rY{x y:Fr}(a:0<x.2)(b:0<y.2):fr (dS x y)=fr x-fr y:=by have:=lg a;have:=lg b;unfold fr dS;simp only[Rat.intCast_sub,V1];grind
def js(x:Fr):fr (cf x)= -fr x:=by unfold fr cf;simp only[Rat.intCast_neg];grind
def gH(x y:Fr):fr (bI x y)=fr x*fr y:=by unfold fr bI;simp only[V1];grind
def yd(x y:Fr):fr (cU x y)=fr x/fr y:=by unfold fr cU;simp only[V1];grind
def lF{x y:Fr}(c:0<x.2)(d:0<y.2):above x y=true↔fr y<fr x:=by
 have a:=vP c;have b:=vP d;unfold above fr;rw[decide_eq_true_iff];have e:(y.1*x.2<x.1*y.2)↔((y.1:Rat)*x.2<x.1*y.2):=by rw[<-V1, <-V1];exact(Rat.intCast_lt_intCast).symm
 rw[e];rw[Rat.div_lt_iff b];have:(x.1:Rat)/x.2*y.2=(x.1*y.2)/x.2:=by grind
 rw[this,Rat.lt_div_iff a]
def iO:fr am=0:=by simp[fr,am];grind
def mw:fr bO=1:=by simp[fr,bO];grind
def qi{x y:Fr}(a:0<x.2)(b:0<y.2):0<(plus x y).2:=WK a b
def vE{x y:Fr}(a:0<x.2)(b:0<y.2):0<(dS x y).2:=WK a b
def ft{x y:Fr}(a:0<x.2)(b:0<y.2):0<(bI x y).2:=WK a b
def zE{x y:Fr}(a:0<x.2)(b:0<y.1):0<(cU x y).2:=WK a b
end Nt
namespace Nt.Mt
abbrev bQ:=Nat×Fr
def kR(r:aG)(a:bQ):aG:=r.set a.1 (plus (r.getD a.1 am) a.2)
def iu(r:aG)(ts:List bQ):aG:=ts.foldl kR r
def cz(m:Nat)(ts:List bQ):aG:=iu (List.replicate m am) ts
def xB(r:aG)(a b:List bQ):iu r (a++b)=iu (iu r a) b:=Wl
def JX(m:Nat)(a b:List bQ):cz m (a++b)=iu (cz m a) b:=xB _ a b
def JC(r:aG)(s:Int)(x:Fr):cW r s x=iu r [(s.toNat,x)]:=rfl
def n9(a:Int)(x:Fr):List bQ:=if a=0 then [] else [((a-1).toNat,x)]
def iq(a b:Int)(x:Fr):List bQ:=n9 a x++n9 b (cf x)
def uc(r:aG)(a b:Int)(x:Fr):iw r a b x=iu r (iq a b x):=by unfold iw iq n9;rw[xB];by_cases c:a=0<;>by_cases d:b=0<;>simp only[c,d,WF,W5,Vh,iu,List.foldl]<;>rfl
noncomputable def cM(p:cJ):Nat:=if p.kind=3 then 0 else if p.kind=10 then 2 else 1
def bt(N:Nat)(ps:bh)(k:Nat):Nat:=N+((ps.take k).map cM).sum
def B3(p:cJ):gm p.kind=(cM p:Nat):=by
 unfold gm cM;split
 ·rfl
 ·split<;>rfl
theorem qz:∀(ps:bh)(N k:Nat),k<ps.length->(fC (N:Int) ps).getD k 0=(bt N ps k:Nat)
 |[],_,_,h=>by simp at h
 |p::r,N,0,_=>by simp[fC,bt]
 |p::r,N,k+1,h=>by have:=qz r (N+cM p) k (by simpa using h);simp only[fC,Wg,B3];rw[<-Int.natCast_add,this];simp[bt];lia
theorem s_:∀(ps:bh)(N:Nat),fw (N:Int) ps=(bt N ps ps.length:Nat)
 |[],N=>by simp[fw,bt]
 |p::r,N=>by have:=s_ r (N+cM p);simp only[fw,B3];rw[<-Int.natCast_add,this];simp[bt];lia
def wG{N:Nat}{ps:bh}{k:Nat}(h:k<ps.length):bt N ps (k+1)=bt N ps k+cM (ps.getD k ae):=by unfold bt;rw[VU,Ve h,VN,List.sum_append,Vd,Ve h];simp;lia
theorem wF{N:Nat}{ps:bh}:∀{k j:Nat},k<=j->j<=ps.length->bt N ps k<=bt N ps j
 |k,0,h,_=>by have:k=0:=by lia
              subst this;exact Vm _
 |k,j+1,h,a=>by
  by_cases e:k=j+1
  ·subst e;exact Vm _
  ·have:=wF (N:=N) (ps:=ps) (k:=k) (j:=j) ⋯ ⋯;rw[wG ⋯];lia
def tm{N:Nat}{ps:bh}(k:Nat):N<=bt N ps k:=by unfold bt;lia
section
variable(n:bB)
def gv(k:Nat)(states:ao):List bQ:=
 if (n.af.getD k ae).kind=11 then []
 else if pj (n.af.getD k ae).kind=true\/kC n k states=true then [((n.aW.getD k 0).toNat,bO)]
 else iq (n.af.getD k ae).a (n.af.getD k ae).b bO
def nA(aj:Fr)(l:List (Int×Fr)):List bQ:=l.map λx=>((n.aW.getD x.1.toNat 0).toNat,cf (bI aj x.2))
def fT(k:Nat)(aj:Fr):List bQ:=
 if (n.af.getD k ae).kind=11 then iq (n.af.getD k ae).c (n.af.getD k ae).d bO
 else if iQ (n.af.getD k ae).kind=true then iq (n.af.getD k ae).c (n.af.getD k ae).d (cf (n.af.getD k ae).q)
 else if (n.af.getD k ae).kind=0 then [((n.aW.getD k 0).toNat,cf (n.af.getD k ae).q)]
 else if (n.af.getD k ae).kind=1 then iq (n.af.getD k ae).a (n.af.getD k ae).b (bI aj (cf (n.af.getD k ae).q))
 else if (n.af.getD k ae).kind=2 then nA n aj (n.eO.getD k [])
 else if gG (n.af.getD k ae).kind=true then [((n.aW.getD (n.af.getD k ae).c.toNat 0).toNat,cf (n.af.getD k ae).q)]
 else []
def Th(r:aG)(k:Nat)(states:ao):jk r n k states=iu r (gv n k states):=by
 unfold jk gv;split
 ·rfl
 ·split
  ·rfl
  ·exact uc _ _ _ _
theorem DJ(aj:Fr):∀(l:List (Int×Fr))(r:aG),jO n aj r l=iu r (nA n aj l)
 |[],_=>rfl
 |x::l,r=>by unfold jO nA;rw[V3,Vv];exact DJ aj l _
def Td(r:aG)(k:Nat)(aj:Fr):lY r n k aj=iu r (fT n k aj):=by
 unfold lY fT;split
 ·exact uc _ _ _ _
 ·split
  ·exact uc _ _ _ _
  ·split
   ·rfl
   ·split
    ·exact uc _ _ _ _
    ·split
     ·exact DJ _ _ _ _
     ·split
      ·rfl
      ·rfl
def d4(aj:Fr)(states:ao)(k:Nat):List (List bQ):=
 if (n.af.getD k ae).kind=3 then []
 else if (n.af.getD k ae).kind=10 then [gv n k states++fT n k aj,[((n.aW.getD k 0+1).toNat,bO),((n.aW.getD k 0).toNat,(n.af.getD k ae).q)]]
 else [gv n k states++fT n k aj]
def iM(v:Nat)(a:Int)(b:bQ):List bQ:=if a=(v:Int)+1 then [b] else []
def jQ(v:Nat)(s:Nat)(a b:Int):List bQ:=iM v a (s,bO)++iM v b (s,cf bO)
def f8(v k:Nat):List bQ:=
 if (n.af.getD k ae).kind=3 then []
 else if (n.af.getD k ae).kind=10 then jQ v (n.aW.getD k 0).toNat (n.af.getD k ae).a (n.af.getD k ae).b++jQ v (n.aW.getD k 0+1).toNat (n.af.getD k ae).c (n.af.getD k ae).d
 else jQ v (n.aW.getD k 0).toNat (n.af.getD k ae).a (n.af.getD k ae).b
def Cj(aj:Fr)(states:ao)(k:Nat):(d4 n aj states k).length=cM (n.af.getD k ae):=by
 unfold d4 cM;split
 ·rfl
 ·split<;>rfl
end
def shape(N m:Nat)(f:Nat->List bQ)(a:cv)(e:Nat):cv:=(List.range N).map (λv=>cz m (f v))++(a++List.replicate e (cz m []))
def xz{N m e:Nat}{f:Nat->List bQ}{b:cv}{a:Int}(s:Int)(x:Fr)(h:1<=a)(i:a<=N):
  ir (shape N m f b e) (a-1) s x=shape N m (λv=>f v++iM v a (s.toNat,x)) b e:=by
 have c:(a-1).toNat<N:=by omega
 unfold ir shape;rw[List.set_append_left _ _ (by simpa using c)];congr 1;apply W6
 ·simp
 ·intro v j g;simp at g;rw[List.getElem_set];have d:((List.range N).map (λv=>cz m (f v))++(b++List.replicate e (cz m []))).getD (a-1).toNat []=cz m (f (a-1).toNat):=by
   rw[Vd,WI (by simpa using c),Vq,Wm c];rfl
  split
  ·rename_i q;subst q;rw[d];simp only[List.getElem_map,List.getElem_range];rw[JX,JC,iM,Vh (by omega)]
  ·rename_i q;simp only[List.getElem_map,List.getElem_range];rw[iM,Vg (by omega),Wo]
def xy{N m e:Nat}{f:Nat->List bQ}{g:cv}{a b:Int}(s:Int)(o:0<=a)(h:a<=N)(p:0<=b)(n:b<=N):
  gA (shape N m f g e) s a b=shape N m (λv=>f v++jQ v s.toNat a b) g e:=by
 have none:∀(c:Int)(j:Nat->bQ),c=0->(λv=>f v++iM v c (j v))=f:=by intro c j q;funext v;rw[iM,Vg ⋯,Wo]
 unfold gA jQ;by_cases i:b=0
 ·rw[Vh i];have l:∀v,iM v b (s.toNat,cf bO)=[]:=λv=>by rw[iM,Vg ⋯]
  simp only[l,Wo];by_cases d:a=0
  ·rw[Vh d,none a (λ_=>(s.toNat,bO)) d]
  ·rw[Vg d,xz s bO ⋯ h]
 ·rw[Vg i];have k:(if a=0 then shape N m f g e else ir (shape N m f g e) (a-1) s bO)=shape N m (λv=>f v++iM v a (s.toNat,bO)) g e:=by
   by_cases d:a=0
   ·rw[Vh d,none a (λ_=>(s.toNat,bO)) d]
   ·rw[Vg d,xz s bO ⋯ h]
  rw[k,xz s (cf bO) ⋯ n];simp only[Xd]
def HS{N m e:Nat}{f:Nat->List bQ}{a:cv}(b:0<e):(shape N m f a e).getD (N+a.length) []=cz m []:=by unfold shape;rw[Vd,Wd (by simp),Wd (by simp)];simp[b]
def HU{N m e:Nat}{f:Nat->List bQ}{a:cv}(r:aG):(shape N m f a (e+1)).set (N+a.length) r=shape N m f (a++[r]) e:=by unfold shape;rw[WS _ _ (by simp),WS _ _ (by simp)];simp[List.replicate_succ]
def Ss{N m e:Nat}{f:Nat->List bQ}{a:cv}(r:aG):(shape N m f (a++[r]) e).getD (N+a.length) []=r:=by unfold shape;rw[Vd,Wd (by simp),WI (by simp),Wd (by simp)];simp
def Su{N m e:Nat}{f:Nat->List bQ}{a:cv}(r r':aG):(shape N m f (a++[r]) e).set (N+a.length) r'=shape N m f (a++[r']) e:=by unfold shape;rw[WS _ _ (by simp),List.set_append_left _ _ (by simp),WS _ _ (by simp)];simp
structure xj(N:Nat)(ps:bh):Prop where
 a0:∀k,k<ps.length->(ps.getD k ae).kind≠3->0<=(ps.getD k ae).a/\(ps.getD k ae).a<=N/\0<=(ps.getD k ae).b/\(ps.getD k ae).b<=N
 c0:∀k,k<ps.length->(ps.getD k ae).kind=10->0<=(ps.getD k ae).c/\(ps.getD k ae).c<=N/\0<=(ps.getD k ae).d/\(ps.getD k ae).d<=N
theorem Dv{N:Nat}{ps:bh}{ws:c_}(t:xj N ps)(aj:Fr)(states:ao):
  ∀j,j<=ps.length->iR (ak N ps ws) aj states j=
   shape N (bt N ps ps.length) (λv=>(List.range j).flatMap (f8 (ak N ps ws) v)) (((List.range j).flatMap (d4 (ak N ps ws) aj states)).map (cz (bt N ps ps.length))) (bt N ps ps.length-bt N ps j)
   /\((List.range j).flatMap (d4 (ak N ps ws) aj states)).length+N=bt N ps j
 |0,_=>by
  refine⟨?_,by simp[bt]⟩;unfold iR shape;have e:(ak N ps ws).size.toNat=bt N ps ps.length:=by show(fw (N:Int) ps).toNat=_;rw[s_];rfl
  rw[e];simp only[List.range_zero,List.foldl_nil,List.flatMap_nil,WH,List.nil_append];have K:(List.range N).map (λ_=>cz (bt N ps ps.length) [])=List.replicate N (cz (bt N ps ps.length) []):=by rw[List.map_const'];simp
  rw[K,List.replicate_append_replicate];have:bt N ps 0=N:=by simp[bt]
  have:=tm (N:=N) (ps:=ps) ps.length;congr 1;lia
 |j+1,T=>by
  obtain⟨s,E⟩:=Dv (ws:=ws) t aj states j ⋯;have o:j<ps.length:=by lia
  have B:(ak N ps ws).aW.getD j 0=((bt N ps j:Nat):Int):=qz ps N j o;have D:=wG (N:=N) o;have M:=wF (N:=N) (ps:=ps) (k:=j+1) (j:=ps.length) ⋯ (Vm _);generalize V:bt N ps ps.length=m at s M ⊢;generalize L:(List.range j).flatMap (d4 (ak N ps ws) aj states)=h at s E ⊢;have S:(h.map (cz m)).length+N=bt N ps j:=by rw[Vn];exact E
  have step:iR (ak N ps ws) aj states (j+1)=mI (ak N ps ws) aj states (iR (ak N ps ws) aj states j) j:=by unfold iR;rw[V2,Wl];rfl
  have z:((List.range (j+1)).flatMap (d4 (ak N ps ws) aj states))=h++d4 (ak N ps ws) aj states j:=by rw[V2,WQ,L];simp
  have O:∀v,(List.range (j+1)).flatMap (f8 (ak N ps ws) v)=(List.range j).flatMap (f8 (ak N ps ws) v)++f8 (ak N ps ws) v j:=by intro v;rw[V2,WQ];simp
  refine⟨?_,by rw[z,Vw,Cj,D];show h.length+cM (ps.getD j ae)+N=_;lia⟩;rw[step,z,s];simp only[O];have P:((ak N ps ws).aW.getD j 0).toNat=N+(h.map (cz m)).length:=by rw[B];lia
  have C:((ak N ps ws).aW.getD j 0+1).toNat=N+(h.map (cz m)).length+1:=by rw[B];lia
  by_cases g:(ps.getD j ae).kind=3
  ·have p:cM (ps.getD j ae)=0:=by unfold cM;rw[Vh g]
   have R:mI (ak N ps ws) aj states=λQ k=>mI (ak N ps ws) aj states Q k:=rfl;unfold mI;rw[Vh (show((ak N ps ws).af.getD j ae).kind=3 from g)];have l:∀v,f8 (ak N ps ws) v j=[]:=λv=>by unfold f8;rw[Vh (show((ak N ps ws).af.getD j ae).kind=3 from g)]
   have n:d4 (ak N ps ws) aj states j=[]:=by unfold d4;rw[Vh (show((ak N ps ws).af.getD j ae).kind=3 from g)]
   simp only[l,n,Wo];rw[D,p];rfl
  ·obtain⟨u,w,x,y⟩:0<=((ak N ps ws).af.getD j ae).a/\((ak N ps ws).af.getD j ae).a<=N/\0<=((ak N ps ws).af.getD j ae).b/\((ak N ps ws).af.getD j ae).b<=N:=t.a0 j o g;have F:∀(f:Nat->List bQ)(e:Nat),mT (shape N m f (h.map (cz m)) (e+1)) (ak N ps ws) aj states j=shape N m f (h.map (cz m)++[cz m (gv (ak N ps ws) j states++fT (ak N ps ws) j aj)]) e:=by
    intro f e;unfold mT;rw[P,HS ⋯,HU,Th,Td, <-xB];rfl
   by_cases i:(ps.getD j ae).kind=10
   ·have p:cM (ps.getD j ae)=2:=by unfold cM;rw[Vg g,Vh i]
    obtain⟨G,H,I,J⟩:0<=((ak N ps ws).af.getD j ae).c/\((ak N ps ws).af.getD j ae).c<=N/\0<=((ak N ps ws).af.getD j ae).d/\((ak N ps ws).af.getD j ae).d<=N:=t.c0 j o i;unfold mI;rw[Vg (show ¬((ak N ps ws).af.getD j ae).kind=3 from g),Vh (show((ak N ps ws).af.getD j ae).kind=10 from i)];have r:m-bt N ps j=(m-bt N ps (j+1))+1+1:=by lia
    rw[r,xy _ u w x y,F,xy _ G H I J];have l:∀v,f8 (ak N ps ws) v j=jQ v ((ak N ps ws).aW.getD j 0).toNat ((ak N ps ws).af.getD j ae).a ((ak N ps ws).af.getD j ae).b++jQ v ((ak N ps ws).aW.getD j 0+1).toNat ((ak N ps ws).af.getD j ae).c ((ak N ps ws).af.getD j ae).d:=λv=>by unfold f8;rw[Vg (show ¬((ak N ps ws).af.getD j ae).kind=3 from g),Vh (show((ak N ps ws).af.getD j ae).kind=10 from i)]
    have n:d4 (ak N ps ws) aj states j=[gv (ak N ps ws) j states++fT (ak N ps ws) j aj,[(((ak N ps ws).aW.getD j 0+1).toNat,bO),(((ak N ps ws).aW.getD j 0).toNat,((ak N ps ws).af.getD j ae).q)]]:=by unfold d4;rw[Vg (show ¬((ak N ps ws).af.getD j ae).kind=3 from g),Vh (show((ak N ps ws).af.getD j ae).kind=10 from i)]
    simp only[l,n];have A:N+(h.map (cz m)).length+1=N+(h.map (cz m)++[cz m (gv (ak N ps ws) j states++fT (ak N ps ws) j aj)]).length:=by simp;lia
    unfold ir;rw[C,A,HS ⋯,HU,Ss,Su];congr 1
    ·funext v;simp only[Xd]
    ·rw[<-C.trans A];simp only[VN,Vv,WH,Xd];rfl
   ·have p:cM (ps.getD j ae)=1:=by unfold cM;rw[Vg g,Vg i]
    unfold mI;rw[Vg (show ¬((ak N ps ws).af.getD j ae).kind=3 from g),Vg (show ¬((ak N ps ws).af.getD j ae).kind=10 from i)];have r:m-bt N ps j=(m-bt N ps (j+1))+1:=by lia
    rw[r,xy _ u w x y,F];have l:∀v,f8 (ak N ps ws) v j=jQ v ((ak N ps ws).aW.getD j 0).toNat ((ak N ps ws).af.getD j ae).a ((ak N ps ws).af.getD j ae).b:=λv=>by unfold f8;rw[Vg (show ¬((ak N ps ws).af.getD j ae).kind=3 from g),Vg (show ¬((ak N ps ws).af.getD j ae).kind=10 from i)]
    have n:d4 (ak N ps ws) aj states j=[gv (ak N ps ws) j states++fT (ak N ps ws) j aj]:=by unfold d4;rw[Vg (show ¬((ak N ps ws).af.getD j ae).kind=3 from g),Vg (show ¬((ak N ps ws).af.getD j ae).kind=10 from i)]
    simp only[l,n];congr 1;simp only[VN,Vv,WH]
def vk{N:Nat}{ps:bh}{ws:c_}(a:xj N ps)(aj:Fr)(states:ao):
  fm (ak N ps ws) aj states=(List.range N).map (λv=>cz (bt N ps ps.length) ((List.range ps.length).flatMap (f8 (ak N ps ws) v)))++((List.range ps.length).flatMap (d4 (ak N ps ws) aj states)).map (cz (bt N ps ps.length))
  /\((List.range ps.length).flatMap (d4 (ak N ps ws) aj states)).length+N=bt N ps ps.length:=by
 obtain⟨h,l⟩:=Dv (ws:=ws) a aj states ps.length (Vm _);refine⟨?_,l⟩;unfold fm;show iR _ _ _ ps.length=_;rw[h,shape,Nat.sub_self];simp
open Wh
structure gb(p:cJ):Prop where
 k0:0<=p.kind
 k1:p.kind<=13
 a0:0<=p.a
 b0:0<=p.b
 c0:0<=p.c
 d0:0<=p.d
 q0:0<p.q.2
noncomputable def bJ(p:cJ):Elem:=WhC.elemIn [p.kind,p.a,p.b,p.c,p.d,p.q.1,p.q.2]
def bz(N:Nat)(ps:bh):Net:=⟨N,ps.map bJ⟩
def mH{p:cJ}(w:gb p):p.kind=0\/p.kind=1\/p.kind=2\/p.kind=3\/p.kind=4\/p.kind=5\/p.kind=6\/p.kind=7\/p.kind=8\/p.kind=9\/p.kind=10\/p.kind=11\/p.kind=12\/p.kind=13:=by have:=w.k0;have:=w.k1;lia
@[elab_as_elim] theorem nz{P:Int->Prop}(k:Int)(e:k=0\/k=1\/k=2\/k=3\/k=4\/k=5\/k=6\/k=7\/k=8\/k=9\/k=10\/k=11\/k=12\/k=13)(_:P 0)(_:P 1)(_:P 2)(_:P 3)(_:P 4)(_:P 5)(_:P 6)(_:P 7)(_:P 8)(_:P 9)(_:P 10)(_:P 11)(_:P 12)(_:P 13):P k:=by rcases e with rfl|rfl|rfl|rfl|rfl|rfl|rfl|rfl|rfl|rfl|rfl|rfl|rfl|rfl<;>assumption
noncomputable def p_:List (Int×Kind):=[(0,.R),(1,.C),(2,.L),(3,.M),(4,.V),(5,.I),(6,.E),(7,.G),(8,.H),(9,.F),(10,.T),(11,.O),(12,.S),(13,.D)]
def MH{p:cJ}(w:gb p):(p.kind,(bJ p).kind)∈p_:=by refine Vf (i:=p.kind.toNat) ?_;have h:=mH w;clear w;obtain⟨k,a,b,c,d,q⟩:=p;dsimp only at h;refine nz _ h ?_ ?_ ?_ ?_ ?_ ?_ ?_ ?_ ?_ ?_ ?_ ?_ ?_ ?_<;>rfl
def f7{p:cJ}(w:gb p){i:Int}{d:Kind}(h:(i,d)∈p_):(bJ p).kind=d↔p.kind=i:=
 (by decide:∀x,x∈p_->∀y,y∈p_->(x.2=y.2↔x.1=y.1)) _ (MH w) _ h
def oB(p:cJ):(bJ p).q=fr p.q:=rfl
def xZ{p:cJ}(w:gb p)(h:p.kind≠3):(bJ p).node 0=p.a.toNat/\(bJ p).node 1=p.b.toNat:=by have h':=mH w;clear w;obtain⟨k,a,b,c,d,q⟩:=p;dsimp only at h h';revert h;refine nz _ h' ?_ ?_ ?_ ?_ ?_ ?_ ?_ ?_ ?_ ?_ ?_ ?_ ?_ ?_<;>first|exact λ_=>⟨rfl,rfl⟩|exact λh=>absurd rfl h
def MG{p:cJ}(w:gb p)(h:iQ p.kind=true):(bJ p).node 2=p.c.toNat/\(bJ p).node 3=p.d.toNat:=by have h':=mH w;clear w;obtain⟨k,a,b,c,d,q⟩:=p;dsimp only at h h';revert h;refine nz _ h' ?_ ?_ ?_ ?_ ?_ ?_ ?_ ?_ ?_ ?_ ?_ ?_ ?_ ?_<;>first|exact λ_=>⟨rfl,rfl⟩|exact λh=>absurd h ∅
def x8{p:cJ}(h:p.kind=3):(bJ p).refs=[p.a.toNat,p.b.toNat]:=by obtain⟨k,a,b,c,d,q⟩:=p;dsimp only at h;subst h;rfl
def MJ{p:cJ}(h:gG p.kind=true):(bJ p).refs=[p.c.toNat]:=by obtain⟨k,a,b,c,d,q⟩:=p;dsimp only at h;simp only[gG,gn,WW,List.any_nil,Bool.or_false,Bool.or_eq_true,beq_iff_eq] at h;rcases h with rfl|rfl<;>rfl
def Bo{v:Nat}{a:Int}{b u:bQ}(h:b∈iM v a u):b=u:=by
 unfold iM at h;split at h
 ·exact VH.mp h
 ·exact absurd h V8
def xK{P:bQ->Prop}(d:∀i,P (i,bO))(e:∀i,P (i,cf bO)){v s:Nat}{a b:Int}{c:bQ}(h:c∈jQ v s a b):P c:=(VQ.mp h).elim (λh=>Bo h▸d s) λh=>Bo h▸e s
def EQ{P:bQ->Prop}(a:∀i,P (i,bO))(b:∀i,P (i,cf bO)){n:bB}{v k:Nat}{c:bQ}(h:c∈f8 n v k):P c:=by
 unfold f8 at h;split at h
 ·exact absurd h V8
 ·split at h
  ·exact(VQ.mp h).elim (xK a b) (xK a b)
  ·exact xK a b h
def Bn{v:Nat}{a:Int}{u:bQ}:(iM v a u).length<=1:=by
 unfold iM;split
 ·exact Vm 1
 ·exact We 1
def xJ{v s:Nat}{a b:Int}:(jQ v s a b).length<=2:=by unfold jQ;rw[Vw];exact Nat.add_le_add Bn Bn
def Qm{n:bB}{v k:Nat}:(f8 n v k).length<=4:=by
 unfold f8;split
 ·exact We 4
 ·split
  ·rw[Vw];exact Nat.add_le_add xJ xJ
  ·exact Vy xJ ∅
def S9(l:List Nat):sumNat l=l.sum:=by
 unfold sumNat;have:∀(l:List Nat)(a:Nat),l.foldl (λa b=>a+b) a=a+l.sum:=by
  intro l;induction l with
  |nil=>intro a;simp
  |cons x l c=>intro a;rw[V3,c,List.sum_cons];lia
 rw[this];lia
def KP{p:cJ}(w:gb p):(bJ p).currents=cM p:=by unfold Elem.currents cM;simp only[f7 w (i:=3) (d:=.M) ∅,f7 w (i:=10) (d:=.T) ∅]
section
variable{N:Nat}{ps:bh}(W:∀p,p∈ps->gb p)
include W
theorem fF{k:Nat}(h:k<ps.length):gb (ps.getD k ae):=by rw[Vd,Ve h];exact W _ (Vs h)
theorem oy(k:Nat):(bz N ps).at_ k=bt N ps k:=by unfold Net.at_ bt bz;rw[S9];congr 2;rw[<-List.map_take,VS];refine V5 λp a=>?_;exact KP (W p (Xj a))
theorem AO:(bz N ps).unknowns=bt N ps ps.length:=by unfold Net.unknowns;rw[oy W];simp[bz]
end
def sd{N:Nat}{ps:bh}:(bz N ps).indexed=(List.range ps.length).map λk=>(k,bJ (ps.getD k ae)):=by
 unfold Net.indexed bz;apply W6
 ·simp
 ·intro i a b;simp at a;simp[Vd,Ve a]
def pT{N:Nat}{ps:bh}{k:Nat}(h:k<ps.length):(bz N ps).elems[k]? =some (bJ (ps.getD k ae)):=by simp[bz,Vd,Ve h]
def B0{N:Nat}{ps:bh}(g:∀p,p∈ps->gb p)(k:Nat):(bz N ps).coupled k=(ps.flatMap (dN k)).map λx=>(x.1.toNat,fr x.2):=by
 unfold Net.coupled bz;induction ps with
 |nil=>rfl
 |cons p ps c=>
  have c:=c λq l=>g q (by simp[l]);have w:=g p (by simp);simp only at c;rw[Vv,VZ,VN, <-c];have j:=f7 w (i:=3) (d:=.M) ∅;by_cases f:p.kind=3
  ·have m:=x8 f;have n:=w.a0;have o:=w.b0;unfold dN;rw[Xr];simp only[j,f,WF,m,WA,Wg,true_and];by_cases e:p.a=k
   ·have:p.a.toNat=k:=by lia
    simp[e,oB]
   ·have:¬p.a.toNat=k:=by lia
    by_cases h:p.b=k
    ·have:p.b.toNat=k:=by lia
     simp[e,h,oB, *]
    ·have:¬p.b.toNat=k:=by lia
     simp[e,h, *]
  ·unfold dN;rw[Xr];simp only[j,f,W5,false_and];simp
def eL(a:bQ):Nat×Rat:=(a.1,fr a.2)
def uq(m:Nat)(ts:List (Nat×Rat)):List Rat:=ts.foldl (λr a=>addAt r a.1 a.2) (List.replicate m 0)
def kK(ts:List bQ):Prop:=∀a,a∈ts->0<a.2.2
theorem Be:∀(ts:List bQ)(r:aG),kK ts->(∀x,x∈r->0<x.2)->(∀x,x∈iu r ts->0<x.2)/\(iu r ts).map fr=(ts.map eL).foldl (λr a=>addAt r a.1 a.2) (r.map fr)
 |[],r,_,h=>⟨h,rfl⟩
 |a::ts,r,c,h=>by
  have e:∀x,x∈kR r a->0<x.2:=by
   intro x d;unfold kR at d;rcases V7 d with h'|h'
   ·exact h x h'
   ·subst h';refine qi ?_ (c a (by simp));rw[Vd];cases f:r[a.1]? with
    |none=>show(0:Int)<1;decide
    |some y=>exact h y (Vf f)
  obtain⟨i,j⟩:=Be ts (kR r a) (λa g=>c a (by simp[g])) e;refine⟨i,?_⟩;show(iu (kR r a) ts).map fr=_;rw[j,Vv,V3];congr 1;unfold kR addAt eL;rw[List.map_set];by_cases b:a.1<r.length
  ·congr 1;rw[oG _ (c a (by simp))]
   ·congr 1;simp[Vd,b]
   ·rw[Vd,Ve b];exact h _ (Vs b)
  ·rw[List.set_eq_of_length_le (by simp;lia),List.set_eq_of_length_le (by simp;lia)]
def ur{m:Nat}{ts:List bQ}(h:kK ts):(cz m ts).map fr=uq m (ts.map eL)/\∀x,x∈cz m ts->0<x.2:=by obtain⟨a,b⟩:=Be ts (List.replicate m am) h (λx c=>by rw[V_ c];show(0:Int)<1;decide);refine⟨?_,a⟩;unfold cz uq;rw[b,List.map_replicate,iO]
def BB(m:Nat)(ts:List bQ):(cz m ts).length=m:=by
 unfold cz iu;have:∀(ts:List bQ)(r:aG),(ts.foldl kR r).length=r.length:=by
  intro ts;induction ts with
  |nil=>intro r;rfl
  |cons t ts a=>intro r;rw[V3,a];simp[kR]
 rw[this];simp
noncomputable def mJ(l:Law):List (Nat×Rat):=l.terms++l.byS.map λa=>(a.1,0*a.2)
def Du(l:Law)(m:Nat):l.row m 0=(uq m (mJ l),l.right):=by unfold Law.row uq mJ;rw[Wl,List.foldl_map]
def Jm{a:Int}(b:0<=a)(x:Fr):(n9 a x).map eL=volt a.toNat (fr x):=by
 unfold n9 volt;by_cases h:a=0
 ·simp[h]
 ·rw[Vg h,Vg ⋯];simp[eL]
def pL{a b:Int}(c:0<=a)(d:0<=b)(x:Fr):(iq a b x).map eL=across a.toNat b.toNat (fr x):=by unfold iq across;rw[VN,Jm c,Jm d,js]
structure m8(N:Nat)(ps:bh):Prop where
 W:∀p,p∈ps->gb p
 ok:xj N ps
 nQ:∀p,p∈ps->p.kind=3->p.a<ps.length/\p.b<ps.length
 FI:∀p,p∈ps->gG p.kind=true->p.c<ps.length
 sw:∀p,p∈ps->p.kind=12->p.q.1=0\/p.q.1=p.q.2
def eD{ps:bh}{k:Nat}(h:k<ps.length):ps.getD k ae∈ps:=by rw[Vd,Ve h];exact Vs h
def kS{u a:List bQ}{v b:List (Nat×Rat)}(h:u.map eL=v)(h':a.map eL=b):v++b=(u++a).map eL:=by rw[VN,h,h']
def mK{u:List bQ}{v:List (Nat×Rat)}(h:v=u.map eL):[v++[]]=[u.map eL]:=by rw[Wo,h]
def qa{u:List bQ}{v:List (Nat×Rat)}(h:u.map eL=v):[v++[]]=[(u++[]).map eL]:=by rw[Wo,Wo,h]
def Dx{u:List bQ}{v:List (Nat×Rat)}(h:v=u.map eL):[v]=[u.map eL]:=by rw[h]
def oX{s i:Nat}{x:Fr}{y:Rat}(h:s=i)(e:fr x=y):[(s,x)].map eL=[(i,y)]:=by rw[<-h, <-e];rfl
def JB(a b:Nat)(x:Rat):(across a b x).map (λc=>(c.1,0*c.2))=across a b 0:=by unfold across volt;split<;>split<;>simp
section
variable{N:Nat}{ps:bh}{ws:c_}(G:m8 N ps)
include G
theorem mU{k:Nat}(h:k<ps.length):((ak N ps ws).aW.getD k 0).toNat=bt N ps k:=by show((fC (N:Int) ps).getD k 0).toNat=_;rw[qz ps N k h];rfl
theorem Ip{k:Nat}(h:k<ps.length):((ak N ps ws).aW.getD k 0+1).toNat=bt N ps k+1:=by show((fC (N:Int) ps).getD k 0+1).toNat=_;rw[qz ps N k h];lia
theorem DL{k:Nat}(h:k<ps.length)(d:(ps.getD k ae).kind=2)(aj:Fr):
  (nA (ak N ps ws) aj ((ak N ps ws).eO.getD k [])).map eL=((bz N ps).at_ k, -(fr aj*fr (ps.getD k ae).q))::((bz N ps).coupled k).map λp=>((bz N ps).at_ p.1, -(fr aj*p.2)):=by
 have e:(ak N ps ws).eO.getD k []=cP ps k:=by show((List.range ps.length).map (cP ps)).getD k []=_;rw[Vd,Vq,Wm h];rfl
 rw[e];unfold cP nA;rw[Vg (by rw[d];simp),Vv,Vv,B0 G.W,VS,VS];have c:eL ((((ak N ps ws).aW.getD ((k:Int),(ps.getD k ae).q).1.toNat 0).toNat),cf (bI aj ((k:Int),(ps.getD k ae).q).2))=((bz N ps).at_ k, -(fr aj*fr (ps.getD k ae).q)):=by unfold eL;simp only[VE];rw[mU G h,oy G.W,js,gH]
 rw[c];congr 1;refine V5 λx a=>?_;simp only[Function.comp,eL];obtain⟨p,b,a⟩:=V'.mp a;have f:x.1.toNat<ps.length:=by
  unfold dN at a;split at a
  ·rename_i q;have:=G.nQ p b q.1;have:=(G.W p b).b0;simp at a;subst a;simp;omega
  ·split at a
   ·rename_i q;have:=G.nQ p b q.1;have:=(G.W p b).a0;simp at a;subst a;simp;omega
   ·simp at a
 rw[mU G f,oy G.W,js,gH]
theorem Ck{k:Nat}(h:k<ps.length){x:Setting}{states:ao}(aj:Fr)(l:(ps.getD k ae).kind=1\/(ps.getD k ae).kind=2->fr aj=0)(m:(ps.getD k ae).kind=13->(x.on k=true↔¬states.getD ((ak N ps ws).diodes.idxOf (k:Int)) 0=0)):
  ((bz N ps).lawsOf x k (bJ (ps.getD k ae))).map mJ=(d4 (ak N ps ws) aj states k).map (·.map eL):=by
 have w:=fF G.W h;have y:=eD h;have o:=oy G.W (N:=N);have z:=(mU G (ws:=ws) h).trans (o k).symm;have D:=(Ip G (ws:=ws) h).trans (Wk (· +1) (o k).symm);have C:(ak N ps ws).af=ps:=rfl;have s:=DL G (ws:=ws) h;have n:gG (ps.getD k ae).kind=true->((ak N ps ws).aW.getD (ps.getD k ae).c.toNat 0).toNat=(bz N ps).at_ (ps.getD k ae).c.toNat:=λf=>(mU G (ws:=ws) (k:=(ps.getD k ae).c.toNat) (by have:=G.FI _ y f;have:=w.c0;lia)).trans (o _).symm
 have r:=G.sw _ y;unfold d4 gv fT kC;rw[C];clear y o;generalize E:ps.getD k ae=p at*;have e:=mH w;have u:=w.a0;have b0:=w.b0;have v:=w.c0;have d0:=w.d0;have A:=w.q0;clear w;obtain⟨H,a,b,c,d,q⟩:=p;dsimp only at e m l s n r u b0 v d0 A;have i:=(pL u b0 bO).trans (Wk _ mw);have B:=(pL v d0 bO).trans (Wk _ mw);have t:=(pL v d0 (cf q)).trans (Wk _ (js q));have j:=oX z mw;revert m l s n r;refine nz _ e ?_ ?_ ?_ ?_ ?_ ?_ ?_ ?_ ?_ ?_ ?_ ?_ ?_ ?_<;>intro l m s n r
 ·exact mK (kS i (oX z (js q)))
 ·refine Dx (kS j ((pL u b0 _).trans ?_));rw[gH,l (.inl rfl),Rat.zero_mul];exact(JB _ _ _).symm
 ·refine Dx (kS i ((s rfl aj).trans ?_));rw[l (.inr rfl)];simp only[oB,Rat.zero_mul,Vv,VS,Function.comp_def,Rat.neg_zero]
 ·rfl
 ·exact qa i
 ·exact qa j
 ·exact mK (kS i t)
 ·exact mK (kS j t)
 ·exact mK (kS i (oX (n rfl) (js q)))
 ·exact mK (kS j (oX (n rfl) (js q)))
 ·exact congr (Wk List.cons ((Wo _).trans (kS i t))) (mK (kS (oX D mw) (oX z rfl)))
 ·exact mK B.symm
 ·show(if fr q=1 then _ else _:List Law).map mJ=[(if pj 12=true\/(decide ((12:Int)=12)&&decide (q.1=0))=true then _ else _)++[]].map _;have F:=lg A;by_cases g:q.1=0
  ·rw[Vg (by unfold fr;rw[g];grind),Vh (.inr (by rw[Vx g];rfl))];exact qa j
  ·rw[Vh (by unfold fr;rw[(r rfl).resolve_left g];grind),Vg (λf=>f.elim (λf=>nomatch f) λf=>g (Wy f))];exact qa i
 ·show(if x.on k=true then _ else _:List Law).map mJ=[(if pj 13=true\/(decide (states.getD _ 0=0))=true then _ else _)++[]].map _;by_cases g:states.getD ((ak N ps ws).diodes.idxOf (k:Int)) 0=0
  ·rw[Vg (λf=>(m rfl).mp f g),Vh (.inr (Vx g))];exact qa j
  ·rw[Vh ((m rfl).mpr g),Vg (λf=>f.elim (λf=>nomatch f) λf=>g (Wy f))];exact qa i
theorem MK{k:Nat}(h:k<ps.length){j:Setting}{states:ao}{r:Run}(aj:Fr)(l:fr aj=(if r.rule=1 then 2 else 1)/r.h)(n:(ps.getD k ae).kind=13->(j.on k=true↔¬states.getD ((ak N ps ws).diodes.idxOf (k:Int)) 0=0)):
  (stepLaws (bz N ps) j r k (bJ (ps.getD k ae))).map mJ=(d4 (ak N ps ws) aj states k).map (·.map eL):=by
 have w:=fF G.W h;by_cases g:(ps.getD k ae).kind=1
 ·have s:=(mU G (ws:=ws) h).trans (oy G.W (N:=N) k).symm;have i:(ak N ps ws).af=ps:=rfl;unfold d4 gv fT kC;rw[i];generalize o:ps.getD k ae=p at*;have e:=w.a0;have b0:=w.b0;clear w;obtain⟨v,a,b,c,d,q⟩:=p;dsimp only at g e b0;subst g;refine mK (kS (oX s mw) ((pL e b0 _).trans (Wk _ ?_)));rw[gH,js,l];exact Rat.mul_neg _ _
 ·by_cases f:(ps.getD k ae).kind=2
  ·have i:(ak N ps ws).af=ps:=rfl;have m:=DL G (ws:=ws) h f aj;unfold d4 gv fT kC;rw[i];generalize o:ps.getD k ae=p at*;have e:=w.a0;have b0:=w.b0;clear w;obtain⟨v,a,b,c,d,q⟩:=p;dsimp only at f e b0;subst f;rw[l] at m;exact mK (kS ((pL e b0 bO).trans (Wk _ mw)) m)
  ·have t:¬(bJ (ps.getD k ae)).kind=.C:=λq=>g ((f7 w ∅).mp q);have u:¬(bJ (ps.getD k ae)).kind=.L:=λq=>f ((f7 w ∅).mp q);unfold stepLaws;simp only[Vg t,Vg u];exact Ck G h aj (λq=>by rcases q with q|q<;>contradiction) n
theorem OR{k:Nat}(h:k<ps.length)(v:Nat):(f8 (ak N ps ws) v k).map eL=(bz N ps).outOf (v+1) k (bJ (ps.getD k ae)):=by
 have w:=fF G.W h;have j:=mU G (ws:=ws) h;have n:=Ip G (ws:=ws) h;have g:=oy G.W (N:=N) k;have m:(ak N ps ws).af=ps:=rfl;have r:=f7 w (i:=3) (d:=.M) ∅;have o:=f7 w (i:=10) (d:=.T) ∅;have b:∀(a:Int)(s:Nat)(x:Fr),0<=a->(iM v a (s,x)).map eL=if a.toNat=v+1 then [(s,fr x)] else []:=by
  intro a s x t;unfold iM;by_cases q:a=(v:Int)+1
  ·rw[Vh q,Vh ⋯];rfl
  ·rw[Vg q,Vg ⋯];rfl
 unfold f8 Net.outOf;rw[m];generalize ps.getD k ae=p at*;have f:=w.a0;have b0:=w.b0;have l:=w.c0;have d0:=w.d0;simp only[r,o];by_cases c:p.kind=3
 ·simp[c]
 ·by_cases e:p.kind=10
  ·simp only[Vg c,Vh e,jQ,VN,b _ _ _ f,b _ _ _ b0,b _ _ _ l,b _ _ _ d0,xZ w c,MG w (by rw[e];rfl),j,n,g,mw,js,Xd]
  ·simp only[Vg c,Vg e,jQ,VN,b _ _ _ f,b _ _ _ b0,xZ w c,j,g,mw,js]
end
def iU(N L:Nat)(r:Nat->aG):aG:=List.replicate N am++(List.range L).flatMap r
theorem oE{c:dc}:∀{L:Nat}{r:Nat->aG},(∀i,i<L->(r i).length=c i)->((List.range L).flatMap r).length=((List.range L).map c).sum
 |0,_,_=>rfl
 |L+1,r,h=>by rw[V2,WQ,VN,Vw,List.sum_append,oE λi a=>h i ⋯];simp[h L ⋯]
theorem CH{c:dc}:∀{L:Nat}{r:Nat->aG}{k:Nat}{v:Fr},(∀i,i<L->(r i).length=c i)->k<L->c k=1->
  ((List.range L).flatMap r).set ((List.range k).map c).sum v=(List.range L).flatMap λi=>if i=k then [v] else r i
 |0,_,_,_,_,h,_=>by lia
 |L+1,r,k,v,g,h,f=>by
  have d:=oE (c:=c) (L:=L) (r:=r) λi b=>g i ⋯;rw[V2,WQ,WQ];by_cases e:k=L
  ·subst e;rw[WS _ _ ⋯,d,Nat.sub_self];have j:=g k ⋯;rw[f] at j;obtain⟨x,n⟩:=List.length_eq_one_iff.mp j;congr 1
   ·have p:∀l:List Nat,(∀i,i∈l->i≠k)->l.flatMap r=l.flatMap λi=>if i=k then [v] else r i:=by
     intro l;induction l with
     |nil=>intro _;rfl
     |cons a l o=>intro d;rw[VZ,VZ,Vg (d a (by simp)),o λi b=>d i (by simp[b])]
    exact p _ λi b=>by have:=VB.mp b;lia
   ·simp[n]
  ·have m:k<L:=by lia
   have s:((List.range k).map c).sum<((List.range L).map c).sum:=by
    have:List.range L=List.range k++(List.range (L-k)).map (k+ ·):=by rw[<-List.range_add];congr 1;lia
    rw[this,VN,List.sum_append];have:L-k=(L-k-1)+1:=by lia
    rw[this,Wx];simp[f];lia
   rw[List.set_append_left _ _ ⋯,CH (λi b=>g i ⋯) m f];congr 1;simp;intro q;lia
def zJ:∀{ps:bh}{k:Nat},k<=ps.length->(ps.take k).map cM=(List.range k).map λi=>cM (ps.getD i ae):=by
 intro ps k h;apply W6
 ·simp;lia
 ·intro i a b;simp at a b;simp[Vd,Ve (show i<ps.length by lia)]
def QR{N:Nat}{ps:bh}{r:Nat->aG}{k:Nat}{v:Fr}(c:∀i,i<ps.length->(r i).length=cM (ps.getD i ae))(b:k<ps.length)(a:cM (ps.getD k ae)=1):
  (iU N ps.length r).set (bt N ps k) v=iU N ps.length λi=>if i=k then [v] else r i:=by
 unfold iU bt;rw[WS _ _ (by simp)];congr 1;rw[zJ ⋯];simp only[Ws,Nat.add_sub_cancel_left];exact CH c b a
theorem zu{N:Nat}{ps:bh}{step:aG->Nat->aG}{c:Nat->Prop}[DecidablePred c]{v:Nat->Fr}(m:∀f k,k<ps.length->step f k=if c k then f.set (bt N ps k) (v k) else f)
  (b:∀k,k<ps.length->c k->cM (ps.getD k ae)=1):∀(l:List Nat)(r:Nat->aG),(∀k,k∈l->k<ps.length)->(∀i,i<ps.length->(r i).length=cM (ps.getD i ae))->
  l.foldl step (iU N ps.length r)=iU N ps.length (λi=>if i∈l/\c i then [v i] else r i)
 |[],r,_,_=>by simp
 |k::l,r,d,j=>by
  rw[V3,m _ k (d k (by simp))];have g:=d k (by simp);have n:(if c k then (iU N ps.length r).set (bt N ps k) (v k) else iU N ps.length r)=iU N ps.length (λi=>if i=k/\c i then [v i] else r i):=by
   by_cases h:c k
   ·rw[Vh h,QR j g (b k g h)];congr 1;funext i;by_cases e:i=k
    ·subst e;simp[h]
    ·simp[e]
   ·rw[Vg h];congr 1;funext i;by_cases e:i=k
    ·subst e;simp[h]
    ·simp[e]
  rw[n,zu m b l _ (λi a=>d i (by simp[a])) (λi a=>by
   split
   ·rename_i q;rw[b i a q.2];rfl
   ·exact j i a)]
  congr 1;funext i;by_cases e:i=k
  ·subst e;by_cases h:c i<;>simp[h]
  ·simp[e]
def kY{ps:bh}{x:Int}:x∈bw ps↔∃k:Nat,x=k/\k<ps.length/\(ps.getD k ae).kind=13:=by
 unfold bw;simp only[Vz,List.mem_filter,VB,Vp];constructor
 ·rintro⟨k,⟨a,b⟩,rfl⟩;exact⟨k,rfl,a,b⟩
 ·rintro⟨k,rfl,a,b⟩;exact⟨k,⟨a,b⟩,rfl⟩
def xU(ps:bh):(bw ps).Nodup:=by unfold bw;have a:((List.range ps.length).filter λk=>decide ((ps.getD k ae).kind=13)).Nodup:=List.Pairwise.filter _ List.nodup_range;rw[List.Nodup,List.pairwise_map];exact a.imp λh e=>h (by exact_mod_cast e)
def Js{d s:ao}(b:d.Nodup)(f:s.length=d.length){x:Int×Int}(h:x∈d.zip s):x.2=s.getD (d.idxOf x.1) 0:=by
 obtain⟨i,c,a⟩:=V6 h;rw[List.getElem_zip] at a;have e:i<d.length:=by simp at c;lia
 subst a;simp only;rw[b.idxOf_getElem i e,Vd,Ve ⋯];rfl
def AW{d s:ao}(a:s.length=d.length):(d.zip s).map (·.1)=d:=by rw[List.map_fst_zip ⋯]
def kq(n:bB)(rule:Int)(aj:Fr)(states:ao)(time:Fr)(kept:c7)(k:Nat):aG:=
 if (n.af.getD k ae).kind=3 then [] else if (n.af.getD k ae).kind=10 then [am,am]
 else if dg (n.af.getD k ae).kind=true then [valueAt ((n.waves.getD k none).getD mN) time]
 else if cT (n.af.getD k ae).kind=true then [cf (iX n rule aj kept k)]
 else if (n.af.getD k ae).kind=13/\states.getD (n.diodes.idxOf (k:Int)) 0=1 then [(n.af.getD k ae).q] else [am]
def wV{i:Int}(h:dg i=true):i=4\/i=5:=by simp[dg,gn] at h;lia
def se{i:Int}(h:cT i=true):i=1\/i=2:=by simp[cT,gn] at h;lia
def Ci{n:bB}{rule:Int}{aj:Fr}{states:ao}{time:Fr}{kept:c7}{k:Nat}:(kq n rule aj states time kept k).length=cM (n.af.getD k ae):=by
 unfold kq cM
 repeat' split
 all_goals first|rfl|lia
def v0{N:Nat}{ps:bh}{ws:c_}(G:m8 N ps){rule:Int}{aj:Fr}{states:ao}{time:Fr}{kept:c7}(r:states.length=(bw ps).length):
  gq (ak N ps ws) rule aj states time kept=iU N ps.length (kq (ak N ps ws) rule aj states time kept):=by
 unfold gq;have z:List.replicate (ak N ps ws).size.toNat am=iU N ps.length (λi=>List.replicate (cM (ps.getD i ae)) am):=by
  have:(ak N ps ws).size.toNat=bt N ps ps.length:=by show(fw (N:Int) ps).toNat=_;rw[s_];rfl
  rw[this];unfold iU;symm;rw[List.eq_replicate_iff];refine⟨?_,λb B=>?_⟩
  ·rw[Vw,oE (c:=λi=>cM (ps.getD i ae)) (λi _=>by simp), <-zJ (Vm _)];simp[bt]
  ·rcases VQ.mp B with h|h
   ·exact V_ h
   ·obtain⟨i,_,h⟩:=V'.mp h;exact V_ h
 rw[z];show(List.zip (bw ps) states).foldl _ ((List.range ps.length).foldl _ _)=_;rw[zu (N:=N) (ps:=ps) (c:=λk=>dg (ps.getD k ae).kind=true\/cT (ps.getD k ae).kind=true)
  (v:=λk=>if dg (ps.getD k ae).kind=true then valueAt ((ws.getD k none).getD mN) time else cf (iX (ak N ps ws) rule aj kept k))
  (λj k d=>by
   unfold ig;rw[mU G d];show(if dg (ps.getD k ae).kind=true then _ else if cT (ps.getD k ae).kind=true then _ else _)=_;by_cases p:dg (ps.getD k ae).kind=true
   ·simp only[p,WF,true_or];rfl
   ·by_cases t:cT (ps.getD k ae).kind=true
    ·simp only[p,t,WF,or_true,Bool.false_eq_true,W5]
    ·simp only[p,t,or_self,Bool.false_eq_true,W5])
  (λk _ h=>by
   unfold cM;rcases h with h|h
   ·rcases wV h with h|h<;>simp[-List.getD_eq_getElem?_getD,h]
   ·rcases se h with h|h<;>simp[-List.getD_eq_getElem?_getD,h])
  _ _ (λk d=>VB.mp d) (λi _=>by simp)]
 have H:=xU ps;have A:∀(n:List (Int×Int))(j:aG),(∀x,x∈n->x∈(bw ps).zip states)->n.foldl (kn (ak N ps ws)) j=(n.map λx=>x.1.toNat).foldl (λj k=>if (ps.getD k ae).kind=13/\states.getD ((bw ps).idxOf (k:Int)) 0=1 then j.set (((ak N ps ws).aW.getD k 0).toNat) (ps.getD k ae).q else j) j:=by
  intro n;induction n with
  |nil=>intro j _;rfl
  |cons x n s=>intro j g;rw[V3,Vv,V3,s _ λy I=>g y (by simp[I])];congr 1;have u:=Js H r (g x (by simp));have D:x.1∈bw ps:=(WL (g x (by simp))).1;obtain⟨k,d,K,C⟩:=kY.mp D;unfold kn;rw[d] at u ⊢;simp only[VE,C,true_and,u];rfl
 rw[A _ _ λx g=>g];have E:((bw ps).zip states).map (λx=>x.1.toNat)=(bw ps).map Int.toNat:=by rw[<-AW r,VS];simp[AW r]
 rw[E];rw[zu (N:=N) (ps:=ps) (c:=λk=>(ps.getD k ae).kind=13/\states.getD ((bw ps).idxOf (k:Int)) 0=1) (v:=λk=>(ps.getD k ae).q)
  (λj k d=>by rw[mU G d])
  (λk _ h=>by unfold cM;simp[-List.getD_eq_getElem?_getD,h])
  _ _ (λk d=>by obtain⟨x,g,rfl⟩:=Vz.mp d;obtain⟨k,rfl,h,_⟩:=kY.mp g;simpa using h)
  (λi m=>by
   split
   ·rename_i q;unfold cM;rcases q.2 with h|h
    ·rcases wV h with h|h<;>simp[-List.getD_eq_getElem?_getD,h]
    ·rcases se h with h|h<;>simp[-List.getD_eq_getElem?_getD,h]
   ·simp)]
 unfold iU;congr 1;have J:∀(l:List Nat)(f o:Nat->aG),(∀i,i∈l->f i=o i)->l.flatMap f=l.flatMap o:=by
  intro l f o;induction l with
  |nil=>intro _;rfl
  |cons a l s=>intro h;rw[VZ,VZ,h a (by simp),s λi m=>h i (by simp[m])]
 refine J _ _ _ λi m=>?_;have m:=VB.mp m;have F:i∈(bw ps).map Int.toNat↔(ps.getD i ae).kind=13:=by
  constructor
  ·intro h;obtain⟨x,g,rfl⟩:=Vz.mp h;obtain⟨k,rfl,_,h⟩:=kY.mp g;simpa using h
  ·intro h;exact Vz.mpr ⟨(i:Int),kY.mpr ⟨i,rfl,m,h⟩,by simp⟩
 have w:=fF G.W m;simp only[F];unfold kq cM;show _=if (ps.getD i ae).kind=3 then [] else if (ps.getD i ae).kind=10 then [am,am]
  else if dg (ps.getD i ae).kind=true then [valueAt ((ws.getD i none).getD mN) time]
  else if cT (ps.getD i ae).kind=true then [cf (iX (ak N ps ws) rule aj kept i)]
  else if (ps.getD i ae).kind=13/\states.getD ((bw ps).idxOf (i:Int)) 0=1 then [(ps.getD i ae).q] else [am]
 rcases mH w with e|e|e|e|e|e|e|e|e|e|e|e|e|e<;>simp[-List.getD_eq_getElem?_getD,e,dg,cT,gn,m,List.replicate]
theorem FR(m:Nat):∀(b:List Law)(ts:List (List bQ))(c:aG),(∀a,a∈ts->kK a)->b.map mJ=ts.map (·.map eL)->b.map (·.right)=c.map fr->
  b.map (λl=>l.row m 0)=List.zipWith (λi x=>(i.map fr,fr x)) (ts.map (cz m)) c
 |[],[],c,_,_,h=>by simp
 |[],_::_,_,_,h,_=>by simp at h
 |_::_,[],_,_,h,_=>by simp at h
 |_::_,_::_,[],_,_,h=>by simp at h
 |l::b,a::ts,x::c,f,d,e=>by simp only[Vv,List.cons.injEq] at d e;rw[Vv,Vv,List.zipWith_cons_cons,FR m b ts c (λa g=>f a (by simp[g])) d.2 e.2,Du,d.1,e.1,(ur (f a (by simp))).1]
theorem Jr{c β e:Type}(f:c->β->e)(a:Nat->List c)(b:Nat->List β):∀(l:List Nat),(∀i,i∈l->(a i).length=(b i).length)->List.zipWith f (l.flatMap a) (l.flatMap b)=l.flatMap λi=>List.zipWith f (a i) (b i)
 |[],_=>rfl
 |i::l,h=>by rw[VZ,VZ,VZ,List.zipWith_append (h i (by simp)),Jr f a b l λj d=>h j (by simp[d])]
def CA{c β:Type}{l:List c}{f b:c->List β}(h:∀i,i∈l->f i=b i):l.flatMap f=l.flatMap b:=by
 induction l with
 |nil=>rfl
 |cons a l e=>rw[VZ,VZ,h a (by simp),e λi d=>h i (by simp[d])]
section
variable{N:Nat}{ps:bh}{ws:c_}(G:m8 N ps)
include G
theorem Mp{k:Nat}{states:ao}:kK (gv (ak N ps ws) k states):=by
 intro b a;unfold gv iq n9 at a;have:0<bO.2:=by decide
 have:0<(cf bO).2:=by decide
 repeat' split at a
 all_goals simp at a
 all_goals rcases a with rfl|rfl<;>assumption
theorem xR{a b:Int}{x:Fr}(h:0<x.2):kK (iq a b x):=by
 intro d c;unfold iq n9 at c;have:0<(cf x).2:=h
 repeat' split at c
 all_goals simp at c
 all_goals rcases c with rfl|rfl<;>assumption
theorem Mn{k:Nat}(f:k<ps.length){aj:Fr}(g:0<aj.2):kK (fT (ak N ps ws) k aj):=by
 have w:=fF G.W f;have c:0<(ps.getD k ae).q.2:=w.q0;have d:0<(cf (ps.getD k ae).q).2:=c;have j:0<bO.2:=by decide
 unfold fT;show kK (if (ps.getD k ae).kind=11 then _ else if iQ (ps.getD k ae).kind=true then _ else if (ps.getD k ae).kind=0 then _ else if (ps.getD k ae).kind=1 then _ else if (ps.getD k ae).kind=2 then _ else if gG (ps.getD k ae).kind=true then _ else _);split
 ·exact xR G j
 ·split
  ·exact xR G d
  ·split
   ·intro e b;simp only[VH] at b;subst b;exact d
   ·split
    ·exact xR G (ft g d)
    ·split
     ·intro e b;unfold nA at b;obtain⟨x,a,rfl⟩:=Vz.mp b;have a:x∈cP ps k:=by
       have h:(ak N ps ws).eO.getD k []=cP ps k:=by show((List.range ps.length).map (cP ps)).getD k []=_;rw[Vd,Vq,Wm f];rfl
       rwa[h] at a
      have:0<x.2.2:=by
       unfold cP at a;split at a
       ·simp at a
       ·rcases Vo.mp a with rfl|a
        ·exact c
        ·obtain⟨p,i,a⟩:=V'.mp a;have c:=(G.W p i).q0;unfold dN at a
         repeat' split at a
         all_goals simp at a
         all_goals (subst a;exact c)
      exact ft g this
     ·split
      ·intro e b;simp only[VH] at b;subst b;exact d
      ·intro e b;simp at b
theorem B'{k:Nat}(e:k<ps.length){aj:Fr}(f:0<aj.2){states:ao}:∀c,c∈d4 (ak N ps ws) aj states k->kK c:=by
 intro c a;have w:=fF G.W e;have d:kK (gv (ak N ps ws) k states++fT (ak N ps ws) k aj):=λx b=>by
  rcases VQ.mp b with h|h
  ·exact Mp G x h
  ·exact Mn G e f x h
 unfold d4 at a;split at a
 ·simp at a
 ·split at a
  ·simp only[Vo,V8,W4] at a;rcases a with rfl|rfl
   ·exact d
   ·intro x b;simp only[Vo,V8,W4] at b;rcases b with rfl|rfl
    ·show(0:Int)<1;decide
    ·exact w.q0
  ·simp only[VH] at a;subst a;exact d
theorem Cc(v:Nat)(l:List Nat):kK (l.flatMap (f8 (ak N ps ws) v)):=by intro b a;obtain⟨k,_,a⟩:=V'.mp a;exact EQ (P:=λb=>0<b.2.2) (λ_=>(by decide:0<bO.2)) (λ_=>(by decide:0<(cf bO).2)) a
theorem IG{aj:Fr}(e:0<aj.2){states:ao}{rule:Int}{time:Fr}{kept:c7}(d:states.length=(bw ps).length){laws:Nat->List Law}
  (b:∀k,k<ps.length->(laws k).map mJ=(d4 (ak N ps ws) aj states k).map (·.map eL))
  (c:∀k,k<ps.length->(laws k).map (·.right)=(kq (ak N ps ws) rule aj states time kept k).map fr):
  (((List.range N).map λ(v:Nat)=>(⟨(List.range ps.length).flatMap λk=>(bz N ps).outOf (v+1) k (bJ (ps.getD k ae)),[],0⟩:Law))++(List.range ps.length).flatMap laws).map (λl=>l.row (bt N ps ps.length) 0)=
   gO (fm (ak N ps ws) aj states) (gq (ak N ps ws) rule aj states time kept):=by
 rw[(vk G.ok aj states).1,v0 G d];unfold gO iU;rw[List.zipWith_append (by simp),VN];congr 1
 ·apply W6
  ·simp
  ·intro i g h;simp only[List.getElem_map,List.getElem_range,List.getElem_zipWith,List.getElem_replicate,Du,iO];rw[(ur (Cc G i _)).1,List.map_flatMap];congr 2;unfold mJ;simp only[WH,Wo];exact CA λk a=>(OR G (VB.mp a) i).symm
 ·rw[List.map_flatMap,List.map_flatMap,Jr]
  ·exact CA λk a=>FR _ _ _ _ (B' G (VB.mp a) e) (b k (VB.mp a)) (c k (VB.mp a))
  ·intro i f;rw[Vn,Cj,Ci]
end
def AL(l:List Rat)(a:Rat):l.foldl (λa b=>a+b) a=a+total l:=by
 unfold total;induction l generalizing a with
 |nil=>simp[List.foldl];grind
 |cons x l c=>rw[V3,V3,c,c (0+x)];grind
theorem uO{kept:c7}(c:∀k,0<(bY kept k).2.2):∀(l:List (Int×Fr))(a:Fr),0<a.2->(∀x,x∈l->0<x.2.2)->
  0<(l.foldl (λa x=>plus a (bI x.2 (bY kept x.1.toNat).2)) a).2/\fr (l.foldl (λa x=>plus a (bI x.2 (bY kept x.1.toNat).2)) a)=fr a+total (l.map λx=>fr x.2*fr (bY kept x.1.toNat).2)
 |[],a,h,_=>⟨h,by simp[total];grind⟩
 |x::l,a,h,d=>by have b:0<(bI x.2 (bY kept x.1.toNat).2).2:=ft (d x (by simp)) (c _);obtain⟨f,g⟩:=uO c l (plus a (bI x.2 (bY kept x.1.toNat).2)) (qi h b) λy e=>d y (by simp[e]);refine⟨f,?_⟩;rw[V3,g,oG h b,gH,Vv];unfold total;rw[V3,AL,AL];unfold total;grind
structure jH(kept:c7):Prop where
 v:∀k,0<(bY kept k).1.2
 i:∀k,0<(bY kept k).2.2
section
variable{N:Nat}{ps:bh}{ws:c_}(G:m8 N ps)
include G
theorem sj{k:Nat}(a:k<ps.length):(ak N ps ws).eO.getD k []=cP ps k:=by show((List.range ps.length).map (cP ps)).getD k []=_;rw[Vd,Vq,Wm a];rfl
theorem yM{k:Nat}(c:k<ps.length){x:Int×Fr}(a:x∈cP ps k):0<x.2.2:=by
 have b:0<(ps.getD k ae).q.2:=(fF G.W c).q0;unfold cP at a;split at a
 ·simp at a
 ·rcases Vo.mp a with rfl|a
  ·exact b
  ·obtain⟨p,d,a⟩:=V'.mp a;have b:=(G.W p d).q0;unfold dN at a
   repeat' split at a
   all_goals simp at a
   all_goals (subst a;exact b)
theorem Ro{k:Nat}(a:k<ps.length){rule:Int}{aj:Fr}(b:0<aj.2){kept:c7}(K:jH kept):0<(iX (ak N ps ws) rule aj kept k).2:=by
 have c:0<(ps.getD k ae).q.2:=(fF G.W a).q0;unfold iX;rw[sj G a];split
 ·exact qi (ft b (ft c (K.v k))) (ft (by show(0:Int)<1;decide) (K.i k))
 ·exact qi (ft b (uO K.i _ _ ∅ λx d=>yM G a d).1) (ft (by show(0:Int)<1;decide) (K.v k))
theorem Rq{k:Nat}(a:k<ps.length){kept:c7}(K:jH kept):fr (iX (ak N ps ws) 0 am kept k)=0:=by
 have e:0<((ak N ps ws).af.getD k ae).q.2:=(fF G.W a).q0;have d:0<(jU kept (cP ps k)).2:=(uO K.i (cP ps k) am ∅ λx f=>yM G a f).1;have c:(0:Int)<am.2:=by decide
 have o:(0:Int)<((0:Int),(1:Int)).2:=by decide
 have b:fr ((0:Int),(1:Int))=0:=iO;unfold iX;rw[sj G a];split
 ·rw[oG (ft c (ft e (K.v k))) (ft o (K.i k)),gH,gH,gH,iO,b];grind
 ·rw[oG (ft c d) (ft o (K.v k)),gH,gH,iO,b];grind
theorem FO{k:Nat}(h:k<ps.length){m:Setting}{states:ao}{time:Fr}{kept:c7}(K:jH kept)
  (g:(ps.getD k ae).kind=13->(m.on k=true↔states.getD ((ak N ps ws).diodes.idxOf (k:Int)) 0=1))(l:dg (ps.getD k ae).kind=true->m.value k=fr (valueAt ((ws.getD k none).getD mN) time))
  (n:(ps.getD k ae).kind=13->m.drop k=fr (ps.getD k ae).q){rule:Int}{aj:Fr}(j:(ps.getD k ae).kind=1\/(ps.getD k ae).kind=2->rule=0/\aj=am):
  ((bz N ps).lawsOf m k (bJ (ps.getD k ae))).map (·.right)=(kq (ak N ps ws) rule aj states time kept k).map fr:=by
 have w:=fF G.W h;have t:(ak N ps ws).af=ps:=rfl;have u:(ak N ps ws).waves=ws:=rfl;have s:=Rq G (ws:=ws) h K;unfold kq;rw[t,u];generalize v:ps.getD k ae=p at*;have e:=mH w;have i:∀{x y:Rat},x=y->[x]=[y]:=λh=>by rw[h]
 have f:[(0:Rat)]=[am].map fr:=i iO.symm;obtain⟨z,a,b,c,d,q⟩:=p;dsimp only at e g l n j;revert g l n j;refine nz _ e ?_ ?_ ?_ ?_ ?_ ?_ ?_ ?_ ?_ ?_ ?_ ?_ ?_ ?_<;>intro g l n j
 ·exact f
 ·obtain⟨rfl,rfl⟩:=j (.inl rfl);refine i ?_;simp[-List.getD_eq_getElem?_getD,js,s]
 ·obtain⟨rfl,rfl⟩:=j (.inr rfl);refine i ?_;simp[-List.getD_eq_getElem?_getD,js,s]
 ·rfl
 ·exact i (l rfl)
 ·exact i (l rfl)
 ·exact f
 ·exact f
 ·exact f
 ·exact f
 ·exact Wk (λx=>[x,x]) iO.symm
 ·exact f
 ·by_cases r:(bJ ⟨12,a,b,c,d,q⟩).q=1
  ·exact(Wk (List.map Law.right) (Vh r)).trans f
  ·exact(Wk (List.map Law.right) (Vg r)).trans f
 ·have g:=g rfl;change _=List.map fr (if (13:Int)=13/\states.getD ((ak N ps ws).diodes.idxOf (k:Int)) 0=1 then [q] else [am]);by_cases o:states.getD ((ak N ps ws).diodes.idxOf (k:Int)) 0=1
  ·rw[Vh ⟨rfl,o⟩];exact(Wk (List.map Law.right) (Vh (g.mpr o))).trans (i (n rfl))
  ·rw[Vg (λh=>o h.2)];exact(Wk (List.map Law.right) (Vg (λh=>o (g.mp h)))).trans f
theorem Rx{k:Nat}(h:k<ps.length){j:Setting}{states:ao}{time:Fr}{kept:c7}(K:jH kept){r:Run}
  (H:(ps.getD k ae).kind=13->(j.on k=true↔states.getD ((ak N ps ws).diodes.idxOf (k:Int)) 0=1))(J:dg (ps.getD k ae).kind=true->j.value k=fr (valueAt ((ws.getD k none).getD mN) time))
  (F:(ps.getD k ae).kind=13->j.drop k=fr (ps.getD k ae).q){rule:Int}{aj:Fr}(n:0<aj.2)(z:fr aj=(if r.rule=1 then 2 else 1)/r.h)(I:rule=if r.rule=1 then 1 else 0)
  (s:∀k,k<ps.length->cT (ps.getD k ae).kind=true->keptAt r k=⟨fr (bY kept k).1,fr (bY kept k).2⟩)(u:∀p,p∈ps->p.kind=3->(ps.getD p.a.toNat ae).kind=2/\(ps.getD p.b.toNat ae).kind=2):
  (stepLaws (bz N ps) j r k (bJ (ps.getD k ae))).map (·.right)=(kq (ak N ps ws) rule aj states time kept k).map fr:=by
 have w:=fF G.W h;have o:(0:Int)<((rule:Int),(1:Int)).2:=by show(0:Int)<1;decide
 have y:fr ((rule:Int),(1:Int))=if r.rule=1 then 1 else 0:=by
  rw[I];split
  ·exact mw
  ·exact iO
 by_cases d:(ps.getD k ae).kind=1
 ·have l:(bJ (ps.getD k ae)).kind=.C:=(f7 w ∅).mpr d;have m:=s k h (by rw[d];rfl);have f:(ak N ps ws).af=ps:=rfl;have t:fr (iX (ak N ps ws) rule aj kept k)=fr aj*(fr (ps.getD k ae).q*fr (bY kept k).1)+(if r.rule=1 then 1 else 0)*fr (bY kept k).2:=by
   unfold iX;rw[f,Vh d,oG (ft n (ft w.q0 (K.v k))) (ft o (K.i k)),gH,gH,gH,y]
  unfold kq;rw[f];generalize n:ps.getD k ae=p at*;simp only[d,stepLaws,l,WF,m,Vv,WH,dg,cT,gn];simp[js,t,z,oB];split<;>grind
 ·by_cases e:(ps.getD k ae).kind=2
  ·have l:(bJ (ps.getD k ae)).kind=.L:=(f7 w ∅).mpr e;have m:=s k h (by rw[e];rfl);have f:(ak N ps ws).af=ps:=rfl;have A:0<(jU kept (cP ps k)).2/\fr (jU kept (cP ps k))=flux (bz N ps) r k (fr (ps.getD k ae).q):=by
    obtain⟨Q,R⟩:=uO K.i (cP ps k) am ∅ λx c=>yM G h c;refine⟨Q,?_⟩;unfold jU;rw[R,iO];unfold flux cP;rw[Vg (by rw[e];simp),Vv,B0 G.W,m];unfold total;rw[V3,AL];simp only[VE,VS];have E:(ps.flatMap (dN k)).map (λx=>fr x.2*fr (bY kept x.1.toNat).2)=(ps.flatMap (dN k)).map ((λ(p:Nat×Rat)=>p.2*(keptAt r p.1).i)∘λx=>(x.1.toNat,fr x.2)):=by
     refine V5 λx c=>?_;obtain⟨p,g,c⟩:=V'.mp c;have B:x.1.toNat<ps.length/\(ps.getD x.1.toNat ae).kind=2:=by
      have D:=G.W p g;have:=D.a0;have:=D.b0;unfold dN at c;split at c
      ·rename_i q;have:=G.nQ p g q.1;have:=u p g q.1;simp at c;subst c;exact⟨by simp;lia,this.2⟩
      ·split at c
       ·rename_i q;have:=G.nQ p g q.1;have:=u p g q.1;simp at c;subst c;exact⟨by simp;lia,this.1⟩
       ·simp at c
     simp only[Function.comp];rw[s _ B.1 (by rw[B.2];rfl)]
    rw[E];unfold total;grind
   have t:fr (iX (ak N ps ws) rule aj kept k)=fr aj*flux (bz N ps) r k (fr (ps.getD k ae).q)+(if r.rule=1 then 1 else 0)*fr (bY kept k).1:=by unfold iX;rw[f,Vg d,sj G h,oG (ft n A.1) (ft o (K.v k)),gH,gH,y,A.2]
   unfold kq;rw[f];generalize n:ps.getD k ae=p at*;have P:¬(bJ p).kind=.C:=by rw[l];decide
   simp only[e,stepLaws,l,P,WF,m,Vv,WH,dg,cT,gn];simp[js,t,z,oB];split<;>grind
  ·have M:¬(bJ (ps.getD k ae)).kind=.C:=λq=>d ((f7 w ∅).mp q);have O:¬(bJ (ps.getD k ae)).kind=.L:=λq=>e ((f7 w ∅).mp q);unfold stepLaws;simp only[Vg M,Vg O];exact FO G h K H J F (λq=>by rcases q with q|q<;>contradiction)
end
def dQ:ao->ao->List Nat
 |d::a,s::b=>if s=1 then d.toNat::dQ a b else dQ a b
 |_,_=>[]
def lC(l:ao):Prop:=∀s,s∈l->s=0\/s=1
theorem rh:∀(n:Nat)(s:ao),s∈cj n->s.length=n/\lC s
 |0,s,h=>by simp[cj] at h;subst h;exact⟨rfl,λ_ h=>by simp at h⟩
 |n+1,s,h=>by
  unfold cj at h;rcases VQ.mp h with h|h<;>obtain⟨r,d,rfl⟩:=Vz.mp h<;>obtain⟨c,b⟩:=rh n r d<;>
  refine⟨by simp[c],λx a=>?_⟩<;>rcases Vo.mp a with rfl|a
  ·exact .inl rfl
  ·exact b x a
  ·exact .inr rfl
  ·exact b x a
theorem zR:∀(a:ao),rowsOf (a.map Int.toNat)=(cj a.length).map (dQ a)
 |[]=>rfl
 |d::a=>by rw[Vv,rowsOf,zR a,Vu,cj,VN,VS,VS,VS];congr 1
theorem EK:∀{a b:ao}{k:Int},0<=k->(∀d,d∈a->0<=d)->a.Nodup->b.length=a.length->k∈a->(k.toNat∈dQ a b↔b.getD (a.idxOf k) 0=1)
 |[],_,_,_,_,_,_,h=>by simp at h
 |d::a,[],_,_,_,_,h,_=>by simp at h
 |d::a,s::b,k,p,g,l,q,r=>by
  have w:=g d (by simp);have v:∀(a b:ao)(j:Nat),j∈dQ a b->∃d,d∈a/\d.toNat=j:=by
   intro a;induction a with
   |nil=>intro b j h;simp[dQ] at h
   |cons d a m=>
    intro b j h;cases b with
    |nil=>simp[dQ] at h
    |cons s b=>
     unfold dQ at h;split at h
     ·rcases Vo.mp h with rfl|h
      ·exact⟨d,by simp,rfl⟩
      ·obtain⟨d',c,f⟩:=m b j h;exact⟨d',by simp[c],f⟩
     ·obtain⟨d',c,f⟩:=m b j h;exact⟨d',by simp[c],f⟩
  by_cases e:d=k
  ·subst e;rw[List.idxOf_cons_self,WA];have u:¬d.toNat∈dQ a b:=by
    intro h;obtain⟨d',c,f⟩:=v a b _ h;have:=g d' (by simp[c]);have:d'=d:=by lia
    subst this;exact(WT.mp l).1 c
   unfold dQ;by_cases i:s=1
   ·simp[i]
   ·rw[Vg i];exact⟨λh=>absurd h u,λh=>absurd h i⟩
  ·have t:k∈a:=by rcases Vo.mp r with h|h
                  ·exact absurd h.symm e
                  ·exact h
   have o:(d::a).idxOf k=a.idxOf k+1:=by rw[List.idxOf_cons,(by simpa using e:(d==k)=false)];rfl
   rw[o,Wg, <-EK p (λd n=>g d (by simp[n])) (WT.mp l).2 (by simpa using q) t];show k.toNat∈(if s=1 then d.toNat::dQ a b else dQ a b)↔_;split
   ·rw[Vo];constructor
    ·rintro(h|h)
     ·lia
     ·exact h
    ·exact λh=>.inr h
   ·exact Iff.rfl
def xT{N:Nat}{ps:bh}(a:∀p,p∈ps->gb p):(bz N ps).diodes=(bw ps).map Int.toNat:=by
 unfold Net.diodes Net.ofKind bw;rw[sd,List.filter_map,VS,VS];have:(List.range ps.length).filter ((λ(p:Nat×Elem)=>decide (p.2.kind=.D))∘λk=>(k,bJ (ps.getD k ae)))=(List.range ps.length).filter λk=>decide ((ps.getD k ae).kind=13):=by refine List.filter_congr λk b=>?_;have w:=fF a (VB.mp b);simp only[Function.comp];rw[Wr];exact f7 w ∅
 rw[this];have:∀l:List Nat,l.map ((λ(p:Nat×Elem)=>p.1)∘λk=>(k,bJ (ps.getD k ae)))=l.map (Int.toNat∘λ(k:Nat)=>(k:Int)):=by intro l;refine V5 λk _=>?_;simp
 exact this _
def CM{a:aG}{i:Nat}:(a.map fr).getD i 0=fr (a.getD i am):=by
 rw[Vd,Vq,Vd];cases a[i]? with
 |none=>exact iO.symm
 |some x=>rfl
def AQ{b:aG}{a:Int}(c:0<=a):voltage (b.map fr) a.toNat=fr (jw b a):=by
 unfold voltage jw;by_cases h:a=0
 ·simp[h,iO]
 ·rw[Vg h,Vg ⋯,CM];congr 2;lia
def dn(l:aG):Prop:=∀x,x∈l->0<x.2
def i_{l:aG}(h:dn l)(i:Nat):0<(l.getD i am).2:=by
 rw[Vd];cases a:l[i]? with
 |none=>show(0:Int)<1;decide
 |some x=>exact h x (Vf a)
def sv{b:aG}(h:dn b)(a:Int):0<(jw b a).2:=by
 unfold jw;split
 ·decide
 ·exact i_ h _
def rg{c:Type}{l:List c}{f b:c->Bool}(h:∀x,x∈l->f x=b x):l.all f=l.all b:=by
 induction l with
 |nil=>rfl
 |cons a l e=>rw[WX,WX,h a (by simp),e λx d=>h x (by simp[d])]
section
variable{N:Nat}{ps:bh}{ws:c_}(G:m8 N ps)
include G
theorem Jn{a:aG}(b:dn a){k:Nat}(f:k<ps.length)(e:(ps.getD k ae).kind≠3):
  voltage (a.map fr) ((bJ (ps.getD k ae)).node 0)-voltage (a.map fr) ((bJ (ps.getD k ae)).node 1)=fr (fU (ak N ps ws) a k):=by
 have w:=fF G.W f;obtain⟨c,d⟩:=xZ w e;rw[c,d,AQ w.a0,AQ w.b0];unfold fU;rw[rY (sv b _) (sv b _)];rfl
theorem B4{a:aG}{k:Nat}(b:k<ps.length):(a.map fr).getD ((bz N ps).at_ k) 0=fr (fK (ak N ps ws) a k):=by rw[oy G.W,CM];unfold fK;rw[mU G b]
theorem Fq{a:aG}(d:dn a){k:Nat}(b:k<ps.length)(c:(ps.getD k ae).kind≠3):
  (bz N ps).quantity 1 k (a.map fr)=some (fr (fK (ak N ps ws) a k))/\(bz N ps).quantity 2 k (a.map fr)=some (fr (fU (ak N ps ws) a k)):=by
 have w:=fF G.W b;have e:¬(bJ (ps.getD k ae)).kind=.M:=λq=>c ((f7 w ∅).mp q);unfold Net.quantity;rw[pT b];simp only[e,W5,Jn G d b c (ws:=ws),B4 G b (ws:=ws)];simp
theorem En{k:Nat}(a:k<ps.length):(bz N ps).numAt k=fr (ps.getD k ae).q:=by unfold Net.numAt;rw[pT a];rfl
theorem wU{a:aG}(b:dn a)(k:Nat):0<(fU (ak N ps ws) a k).2:=vE (sv b _) (sv b _)
theorem uB{a:aG}(b:dn a)(k:Nat):0<(fK (ak N ps ws) a k).2:=i_ b _
theorem sF{states:ao}(e:states.length=(bw ps).length){k:Nat}(c:k<ps.length)(a:(ps.getD k ae).kind=13):
  (dQ (bw ps) states).contains k=true↔states.getD ((bw ps).idxOf (k:Int)) 0=1:=by
 have f:(k:Int)∈bw ps:=kY.mpr ⟨k,rfl,c,a⟩;have:=EK (k:=(k:Int)) ⋯ (λd b=>by obtain⟨j,rfl,_⟩:=kY.mp b;lia) (xU ps) e f;rw[<-this];simp
theorem xI{states:ao}(a:lC states)(i:Nat):states.getD i 0=0\/states.getD i 0=1:=by
 rw[Vd];cases h:states[i]? with
 |none=>exact .inl rfl
 |some x=>exact a x (Vf h)
theorem Cz{states:ao}(h:states.length=(bw ps).length)(p:lC states){a:aG}(g:dn a):
  (bz N ps).fits (dQ (bw ps) states) (a.map fr)=kX (ak N ps ws) states a:=by
 unfold Net.fits kX;rw[xT G.W,List.all_map];show _=((bw ps).zip states).all _;have e:(bw ps).all ((λk=>if (dQ (bw ps) states).contains k=true then decide (0<=((bz N ps).quantity 1 k (a.map fr)).getD 0) else decide (((bz N ps).quantity 2 k (a.map fr)).getD 0<=(bz N ps).numAt k))∘Int.toNat)
   =(((bw ps).zip states).map (·.1)).all ((λk=>if (dQ (bw ps) states).contains k=true then decide (0<=((bz N ps).quantity 1 k (a.map fr)).getD 0) else decide (((bz N ps).quantity 2 k (a.map fr)).getD 0<=(bz N ps).numAt k))∘Int.toNat):=by rw[AW h]
 rw[e,List.all_map];refine rg λx n=>?_;have r:x.1∈bw ps:=(WL n).1;obtain⟨k,j,d,l⟩:=kY.mp r;have o:=Js (xU ps) h n;have m:=sF G h d l;obtain⟨u,v⟩:=Fq G (ws:=ws) g d (by rw[l];decide);obtain⟨w,z⟩:=x;simp only at j o;subst j;simp only[Function.comp,km,VE];simp only[u,v,Option.getD_some,En G d];rw[o];have s:=uB G (ws:=ws) g k;have t:=wU G (ws:=ws) g k;have f:=lF (x:=am) (y:=fK (ak N ps ws) a k) ∅ s;have i:=lF (x:=fU (ak N ps ws) a k) (y:=(ps.getD k ae).q) t (fF G.W d).q0;rw[iO] at f;show _=(!(_&&above am (fK (ak N ps ws) a k))&& !(_&&above (fU (ak N ps ws) a k) (ps.getD k ae).q))
 rcases xI G p ((bw ps).idxOf (k:Int)) with c|c
 ·rw[Vg (by rw[m,c];decide),c];by_cases b:above (fU (ak N ps ws) a k) (ps.getD k ae).q=true
  ·have:=i.mp b;simp[b];grind
  ·have:¬_:=λq=>b (i.mpr q);simp[b];grind
 ·rw[Vh (by rw[m,c]),c];by_cases b:above am (fK (ak N ps ws) a k)=true
  ·have:=f.mp b;simp[b];grind
  ·have:¬_:=λq=>b (f.mpr q);simp[b];grind
end
end Nt.Mt
namespace Nt.Mt
def CJ{a b:Int}(c:0<b):((a:Rat)/(b:Rat)).floor=a/b:=by
 have d:=vP c;have e:a/b<=((a:Rat)/(b:Rat)).floor:=by
  rw[Rat.le_floor_iff, <-Rat.not_lt,Rat.div_lt_iff d, <-V1,Rat.intCast_lt_intCast];have:=Int.ediv_mul_le a (show b≠0 by lia)
  lia
 have f:((a:Rat)/(b:Rat)).floor<a/b+1:=by
  rw[Rat.floor_lt_iff,Rat.div_lt_iff d, <-V1,Rat.intCast_lt_intCast];have:=Int.lt_ediv_add_one_mul_self a c
  lia
 lia
def v9{x:Fr}(g:0<x.2){bits:Nat}:fr (rounded x (2^bits))=Wh.rounded bits (fr x)/\0<(rounded x (2^bits)).2:=by
 have k:(0:Int)<2^bits:=Int.pow_pos ∅;refine⟨?_,k⟩;have r:(((2^bits:Nat)):Rat)=((2^bits:Int):Rat):=by
  have:((2^bits:Nat):Int)=2^bits:=by rw[Int.natCast_pow];rfl
  rw[<-this];rfl
 unfold Wh.rounded fr rounded;rw[r];simp only;generalize (2:Int)^bits=f at k ⊢;congr 1;congr 1;generalize s:x.2=d at g ⊢;generalize w:x.1*f=a;have l:(x.1:Rat)/(d:Rat)*(f:Rat)=(a:Rat)/(d:Rat):=by rw[<-w,V1];have:=lg g;grind
 rw[l];unfold Wh.nearestWhole;have z:=lg g;have o:(a:Rat)/(d:Rat)+1/2=((2*a+d:Int):Rat)/((2*d:Int):Rat):=by simp only[Rat.intCast_add,V1];have:((2:Int):Rat)=2:=rfl;rw[this];grind
 rw[o,CJ ⋯];have u:0<=a-a/d*d/\a-a/d*d<d:=by
  have i:=Int.ediv_mul_le a (show d≠0 by lia);have c:=Int.lt_ediv_add_one_mul_self a g;rw[Int.add_mul] at c
  lia
 have v:oU x a=(decide (d<2*(a-a/d*d))||(decide (2*(a-a/d*d)=d)&&decide (a/d%2=1))):=by unfold oU;rw[s]
 rw[v];generalize y:a/d=n at u ⊢;have b:(2*a+d)/(2*d)=if d<=2*(a-n*d) then n+1 else n:=by
  split
  ·rename_i h;have e:2*a+d=(2*(a-n*d)-d)+(n+1)*(2*d):=by grind
   rw[e,Int.add_mul_ediv_right _ _ ⋯,Int.ediv_eq_zero_of_lt ⋯ ⋯];lia
  ·rename_i h;have e:2*a+d=(2*(a-n*d)+d)+n*(2*d):=by grind
   rw[e,Int.add_mul_ediv_right _ _ ⋯,Int.ediv_eq_zero_of_lt ⋯ ⋯];lia
 have t:∀m:Int,((m:Rat)=((2*a+d:Int):Rat)/((2*d:Int):Rat))↔m*(2*d)=2*a+d:=by
  intro m;have A:((2*d:Int):Rat)≠0:=lg ⋯;constructor
  ·intro h;have:((m*(2*d):Int):Rat)=((2*a+d:Int):Rat):=by
    rw[V1,h];grind
   exact_mod_cast this
  ·intro h;rw[<-h,V1];grind
 simp only[t];symm;generalize (2*a+d)/(2*d)=m at b ⊢;by_cases i:d<2*(a-n*d)
 ·rw[Vh ⋯] at b;subst b;rw[Vg (by
   rintro⟨q,_⟩;have:(n+1)*(2*d)=2*(n*d)+2*d:=by grind
   lia)]
  simp[i]
 ·by_cases c:2*(a-n*d)=d
  ·rw[Vh ⋯] at b;subst b;have p:(n+1)*(2*d)=2*a+d:=by
    have:(n+1)*(2*d)=2*(n*d)+2*d:=by grind
    lia
   by_cases j:n%2=1
   ·rw[Vg (by rintro⟨_,q⟩;lia)];simp[c,j]
   ·rw[Vh ⟨p,⋯⟩];simp[c,j]
  ·rw[Vg ⋯] at b;subst b;rw[Vg (by
    rintro⟨q,_⟩;have:m*(2*d)=2*(m*d):=by grind
    lia)]
   simp[i,c]
def yQ{x:Fr}(b:0<x.2):WhC.fraction (fr x)=[(cn x).1,(cn x).2]:=by
 unfold WhC.fraction cn cN;have c:0<Int.gcd x.1 x.2:=by
  rcases Nat.eq_zero_or_pos (Int.gcd x.1 x.2) with h|h
  ·have:=(Int.gcd_eq_zero_iff.mp h).2;lia
  ·exact h
 have e:fr x=Rat.divInt x.1 x.2:=by rw[Rat.divInt_eq_div];rfl
 have a:x.2.sign=1:=Int.sign_eq_one_of_pos b;rw[e,Rat.num_divInt,Rat.den_divInt,Vg ⋯,a,Int.one_mul,Int.gcd_comm x.2 x.1];congr 2;rw[Int.natCast_ediv];congr 1;lia
open Wh
structure fh(w:dX):Prop where
 aC:w.fP.length=w.cD.length
 one:1<=w.cD.length
 dm:dn w.cD
 dl:dn w.fP
 p0:0<=w.period.1
 p2:0<w.period.2
 up:∀j,j+1<w.cD.length->fr (w.cD.getD j am)<fr (w.cD.getD (j+1) am)
def ly(w:dX):Wave:=⟨List.zipWith (λm l=>(fr m,fr l)) w.cD w.fP,fr w.period⟩
def uF{w:dX}(o:fh w){k:Nat}(h:k<w.cD.length):(ly w).points.drop k=(fr (w.cD.getD k am),fr (w.fP.getD k am))::(ly w).points.drop (k+1):=by have a:=o.aC;unfold ly;rw[W2 (by simp;lia)];congr 1;simp[Vd,Ve h,Ve (show k<w.fP.length by lia)]
def S8{x y:Fr}(a:0<x.2)(b:0<y.2)(h:fr y<fr x):0<(dS x y).1:=by have:=(lF a b).mpr h;unfold above at this;have:=Wy this;unfold dS;simp only;omega
theorem Jk{w:dX}(o:fh w){m:Fr}(c:0<m.2):∀(f k:Nat),1<=k->k+f=w.cD.length->fr (lZ w m f k)=lineAt ((ly w).points.drop (k-1)) (fr m)/\0<(lZ w m f k).2
 |0,k,p,r=>by
  have v:=o.aC;rw[uF o ⋯,show k-1+1=k by lia];have:(ly w).points.drop k=[]:=by unfold ly;rw[List.drop_eq_nil_of_le];simp;lia
  rw[this];unfold lZ lineAt;rw[show w.fP.length-1=k-1 by lia];exact⟨rfl,i_ o.dl _⟩
 |f+1,k,p,r=>by
  obtain⟨l,t⟩:=Jk o c f (k+1) ⋯ ⋯;rw[uF o ⋯,show k-1+1=k by lia,uF o (show k<_ by lia)];rw[show k+1-1=k by lia,uF o (show k<_ by lia)] at l;unfold lZ lineAt;have i:=lF (x:=w.cD.getD k am) (y:=m) (i_ o.dm _) c;have g:=i_ o.dm k;have b:=i_ o.dm (k-1);have e:=i_ o.dl k;have a:=i_ o.dl (k-1);by_cases h:above (w.cD.getD k am) m=true
  ·have d:=i.mp h;rw[Vh h,Vh d];have j:=o.up (k-1) ⋯;rw[show k-1+1=k by lia] at j;have s:=S8 g b j;have u:=ft (vE e a) (vE c b);have n:=zE (y:=dS (w.cD.getD k am) (w.cD.getD (k-1) am)) u s;unfold qM;refine⟨?_,qi a n⟩;rw[oG a n,yd,gH,rY e a,rY c b,rY g b]
  ·have d:¬_:=λq=>h (i.mpr q);rw[Vg h,Vg d];exact⟨l,t⟩
def OE{w:dX}(o:fh w){a:Fr}(b:0<a.2):0<(jv w.period a).2/\fr (jv w.period a)=if fr w.period=0 then fr a else fr a-fr w.period*(((fr a/fr w.period).floor:Int):Rat):=by
 have c:=o.p2;unfold jv;have g:=lF (x:=w.period) (y:=am) c ∅;have e:above w.period (0,1)=above w.period am:=rfl;rw[e];by_cases h:above w.period am=true
 ·rw[Vh h];have k:=g.mp h;rw[iO] at k;have j:0<w.period.1:=by
   unfold above at h;have:=Wy h;simp[am] at this;exact this
  rw[Vg (by grind)];have d:0<(bI ((cU a w.period).1/(cU a w.period).2,1) w.period).2:=ft (by show(0:Int)<1;decide) c;refine⟨vE b d,?_⟩;rw[rY b d,gH];have i:fr a/fr w.period=((cU a w.period).1:Rat)/((cU a w.period).2:Rat):=(yd a w.period).symm;rw[i,CJ (zE b j)];have:fr ((cU a w.period).1/(cU a w.period).2,1)=(((cU a w.period).1/(cU a w.period).2:Int):Rat):=by unfold fr;simp only[Rat.intCast_one];grind
  rw[this];grind
 ·rw[Vg h];have l:fr w.period=0:=by
   have f:w.period.1=0:=by unfold above at h;have:=λq=>h (Vx q);simp[am] at this;have:=o.p0;lia
   unfold fr;rw[f];grind
  rw[Vh l];exact⟨b,rfl⟩
def TF{w:dX}(o:fh w){a:Fr}(d:0<a.2):fr (valueAt w a)=(ly w).at_ (fr a)/\0<(valueAt w a).2:=by
 obtain⟨b,c⟩:=OE o d;have g:=o.one;obtain⟨e,f⟩:=Jk o b (w.cD.length-1) 1 ⋯ ⋯;unfold valueAt;refine⟨?_,f⟩;rw[e,c];unfold Wave.at_;show lineAt ((ly w).points.drop 0) _=if fr w.period=0 then _ else _
 rw[Xe];split<;>rfl
def AC(ws:c_):List Wave:=ws.map λ
 |none=>⟨[],0⟩
 |some w=>ly w
def cB(N L:Nat)(a:Nat->Elem):Net:=⟨N,(List.range L).map a⟩
structure A3(x y:Elem):Prop where
 kind:y.kind=x.kind
 nodes:y.nodes=x.nodes
 refs:y.refs=x.refs
 q:¬(x.kind=.V\/x.kind=.I)->y.q=x.q
section
variable{N L:Nat}{g g':Nat->Elem}(h:∀k,A3 (g k) (g' k))
include h
theorem vy(k:Nat):(cB N L g').at_ k=(cB N L g).at_ k:=by unfold Net.at_ cB;congr 2;rw[<-List.map_take, <-List.map_take,VS,VS];refine V5 λi _=>?_;simp only[Function.comp,Elem.currents,(h i).kind]
theorem DH:(cB N L g').unknowns=(cB N L g).unknowns:=by unfold Net.unknowns;rw[vy h];simp[cB]
theorem N8(k:Nat):(cB N L g').coupled k=(cB N L g).coupled k:=by
 unfold Net.coupled cB;simp only[List.filterMap_map];congr 1;funext i;simp only[Function.comp];have a:=h i;rw[a.kind,a.refs];by_cases e:(g i).kind=.M
 ·rw[a.q (by rw[e];simp)]
 ·simp[e]
theorem uZ(g:Nat->Elem):(cB N L g).indexed=(List.range L).map λk=>(k,g k):=by
 unfold Net.indexed cB;apply W6
 ·simp
 ·intro i a b;simp at a;simp
theorem DG:(cB N L g').diodes=(cB N L g).diodes:=by
 unfold Net.diodes Net.ofKind;rw[uZ h,uZ h,List.filter_map,List.filter_map,VS,VS];have:((λ(p:Nat×Elem)=>decide (p.2.kind=.D))∘λk=>(k,g' k))=((λ(p:Nat×Elem)=>decide (p.2.kind=.D))∘λk=>(k,g k)):=by funext i;simp[(h i).kind]
 rw[this];rfl
theorem N'(v k:Nat):(cB N L g').outOf v k (g' k)=(cB N L g).outOf v k (g k):=by unfold Net.outOf;simp only[vy h,Elem.node,(h k).kind,(h k).nodes];rfl
theorem N_(s:Setting)(k:Nat):(cB N L g').lawsOf s k (g' k)=(cB N L g).lawsOf s k (g k):=by have a:=h k;have b:=a.q;unfold Net.lawsOf;simp only[vy h,N8 h,Elem.node,a.kind,a.nodes,a.refs];cases e:(g k).kind<;>simp only[e] at b ⊢ <;>first|rfl|rw[b (by simp)]
theorem Oa(d k:Nat)(x:List Rat):(cB N L g').quantity d k x=(cB N L g).quantity d k x:=by
 unfold Net.quantity;simp only[vy h];have e:(cB N L g').nodes=(cB N L g).nodes:=rfl;rw[e];by_cases c:k<L
 ·have a:(cB N L g').elems[k]? =some (g' k):=by simp[cB,c]
  have b:(cB N L g).elems[k]? =some (g k):=by simp[cB,c]
  rw[a,b];simp only[Elem.node,(h k).kind,(h k).nodes]
 ·have a:(cB N L g').elems[k]? =none:=by simp[cB];lia
  have b:(cB N L g).elems[k]? =none:=by simp[cB];lia
  rw[a,b]
theorem N9(r:States)(x:List Rat):(cB N L g').fits r x=(cB N L g).fits r x:=by
 unfold Net.fits;rw[DG h];refine rg λk c=>?_;simp only[Oa h];have:(cB N L g').numAt k=(cB N L g).numAt k:=by
  unfold Net.diodes Net.ofKind at c;rw[uZ h] at c;obtain⟨p,d,rfl⟩:=Vz.mp c;obtain⟨d,a⟩:=List.mem_filter.mp d;obtain⟨i,b,rfl⟩:=Vz.mp d;have b:=VB.mp b;have a:=Wy a;simp only at a ⊢;unfold Net.numAt;have e:(cB N L g').elems[i]? =some (g' i):=by simp[cB,b]
  have f:(cB N L g).elems[i]? =some (g i):=by simp[cB,b]
  rw[e,f];simp only[Wi,Option.getD_some];exact(h i).q (by rw[a];simp)
 rw[this]
end
def qy(N:Nat)(ps:bh):bz N ps=cB N ps.length λk=>bJ (ps.getD k ae):=by
 unfold bz cB;congr 1;apply W6
 ·simp
 ·intro i a b;simp at a;simp[Vd,Ve a]
def ko(T:Timed)(ps:bh)(k:Nat):Elem:=if (bJ (ps.getD k ae)).kind=.V\/(bJ (ps.getD k ae)).kind=.I then ⟨(bJ (ps.getD k ae)).kind,(bJ (ps.getD k ae)).nodes,(bJ (ps.getD k ae)).refs,T.value 0 k⟩ else bJ (ps.getD k ae)
def Bl{N:Nat}{ps:bh}{a:List Wave}:(⟨bz N ps,a⟩:Timed).at0=cB N ps.length (ko ⟨bz N ps,a⟩ ps):=by unfold Timed.at0 cB;rw[sd,VS];rfl
def DF(T:Timed)(ps:bh)(k:Nat):A3 (bJ (ps.getD k ae)) (ko T ps k):=by
 unfold ko;split
 ·rename_i h;exact⟨rfl,rfl,rfl,λq=>absurd h q⟩
 ·exact⟨rfl,rfl,rfl,λ_=>rfl⟩
noncomputable def cy(l:aG):Int:=l.foldr (λx p=>x.2*p) 1
def sQ{l:aG}(h:dn l):0<cy l:=by
 induction l with
 |nil=>decide
 |cons x l b=>exact WK (h x (by simp)) (b λy a=>h y (by simp[a]))
def QY(a b:aG):cy (a++b)=cy a*cy b:=by
 induction a with
 |nil=>show cy b=1*cy b;lia
 |cons x a c=>show x.2*cy (a++b)=x.2*cy a*cy b;rw[c,WE]
def S2{s:Int}{x:Fr}(g:0<s)(b:0<x.2):0<fR s x/\fR s x<=s*x.2:=by
 unfold fR cN;have i:0<Int.gcd s x.2:=by
  rcases Nat.eq_zero_or_pos (Int.gcd s x.2) with h|h
  ·have:=(Int.gcd_eq_zero_iff.mp h).2;lia
  ·exact h
 have f:((Int.gcd s x.2:Nat):Int)∣x.2:=Int.gcd_dvd_right ..;obtain⟨c,a⟩:=f;have e:x.2/((Int.gcd s x.2:Nat):Int)=c:=by
  conv=>lhs;lhs;rw[a]
  exact WM _ ⋯
 rw[e];have d:0<c:=by rw[a] at b;exact W_ b ⋯
 refine⟨WK g d,VX ?_ ⋯⟩;rw[a];have:1*c<=((Int.gcd s x.2:Nat):Int)*c:=VT ⋯ ⋯
 lia
def sY(l:aG)(h:dn l):0<aR l/\aR l<=cy l:=by
 unfold aR;have j:∀(l:aG)(s:Int),dn l->0<s->0<l.foldl fR s/\l.foldl fR s<=s*cy l:=by
  intro l;induction l with
  |nil=>intro s _ c;exact⟨c,by show s<=s*1;lia⟩
  |cons x l i=>intro s b c;obtain⟨a,e⟩:=S2 c (b x (by simp));obtain⟨f,g⟩:=i (fR s x) (λy d=>b y (by simp[d])) a;refine⟨f,Wp g ?_⟩;show _<=s*(x.2*cy l);rw[<-WE];exact VT e (Int.le_of_lt (sQ λy d=>b y (by simp[d])))
 obtain⟨a,e⟩:=j l 1 h ∅;exact⟨a,⋯⟩
def S0{s:Int}{x:Fr}(i:0<x.2):s∣fR s x/\x.2∣fR s x:=by
 unfold fR cN;have d:((Int.gcd s x.2:Nat):Int)∣x.2:=Int.gcd_dvd_right ..;have f:((Int.gcd s x.2:Nat):Int)∣s:=Int.gcd_dvd_left ..;refine⟨Int.dvd_mul_right ..,?_⟩;obtain⟨a,c⟩:=d;obtain⟨b,g⟩:=f;have h:((Int.gcd s x.2:Nat):Int)≠0:=λq=>by rw[q] at c;lia
 have e:x.2/((Int.gcd s x.2:Nat):Int)=a:=by
  conv=>lhs;lhs;rw[c]
  exact WM _ h
 rw[e];refine⟨b,?_⟩
 conv=>lhs;rw[g]
 conv=>rhs;rw[c]
 grind
def At(l:aG)(h:dn l):∀x,x∈l->x.2∣aR l:=by
 unfold aR;have j:∀(l:aG)(s:Int),dn l->s∣l.foldl fR s/\∀x,x∈l->x.2∣l.foldl fR s:=by
  intro l;induction l with
  |nil=>intro s _;exact⟨Int.dvd_refl _,λx a=>by simp at a⟩
  |cons y l i=>
   intro s b;obtain⟨d,e⟩:=S0 (s:=s) (b y (by simp));obtain⟨c,g⟩:=i (fR s y) λk f=>b k (by simp[f]);refine⟨Int.dvd_trans d c,λx a=>?_⟩;rcases Vo.mp a with rfl|a
   ·exact Int.dvd_trans e c
   ·exact g x a
 exact(j l 1 h).2
noncomputable def eT(ts:List bQ):Int:=ts.foldr (λa p=>a.2.2*p) 1
def vT{ts:List bQ}(h:kK ts):0<eT ts:=by
 induction ts with
 |nil=>decide
 |cons x l b=>exact WK (h x (by simp)) (b λy a=>h y (by simp[a]))
def Q6(a b:List bQ):eT (a++b)=eT a*eT b:=by
 induction a with
 |nil=>show eT b=1*eT b;lia
 |cons x a c=>show x.2.2*eT (a++b)=x.2.2*eT a*eT b;rw[c,WE]
theorem Fi:∀(r:aG)(i:Nat)(y:Fr),cy (r.set i (plus (r.getD i am) y))<=cy r*y.2\/¬(0<y.2)\/¬dn r
 |[],i,y=>by
  by_cases h:0<y.2
  ·left;show(1:Int)<=1*y.2;lia
  ·exact .inr (.inl h)
 |x::r,0,y=>by left;show x.2*y.2*cy r<=x.2*cy r*y.2;rw[WE,Xu y.2, <-WE];lia
 |x::r,i+1,y=>by
  rcases Fi r i y with h|h|h
  ·by_cases a:dn (x::r)
   ·left;show x.2*cy (r.set i _)<=x.2*cy r*y.2;rw[WE];exact VX h (by have:=a x (by simp);lia)
   ·exact .inr (.inr a)
  ·exact .inr (.inl h)
  ·exact .inr (.inr λq=>h λc b=>q c (by simp[b]))
def Mg(β:Nat)(x:Fr):Prop:=0<x.2/\(x.1.natAbs:Int)<=β*x.2
def Mg.aF{β a:Nat}{x:Fr}(h:Mg β x)(b:β<=a):Mg a x:=
 ⟨h.1,Wp h.2 (VT ⋯ (by have:=h.1;lia))⟩
def Mg.zero:Mg 0 am:=⟨∅,∅⟩
def Mg.one:Mg 1 bO:=⟨∅,∅⟩
def Mg.neg{β:Nat}{x:Fr}(h:Mg β x):Mg β (cf x):=⟨h.1,by show((-x.1).natAbs:Int)<=_;rw[Int.natAbs_neg];exact h.2⟩
def Mg.plus{β a:Nat}{x y:Fr}(h:Mg β x)(q:Mg a y):Mg (β+a) (plus x y):=by
 refine⟨qi h.1 q.1,?_⟩;show((x.1*y.2+y.1*x.2).natAbs:Int)<=((β+a:Nat):Int)*(x.2*y.2);have b:((x.1*y.2).natAbs:Int)<=β*(x.2*y.2):=by
  rw[WJ,Wa, <-WE];have:((y.2.natAbs:Nat):Int)=y.2:=by have:=q.1;lia
  rw[this];exact VT h.2 (by have:=q.1;lia)
 have c:((y.1*x.2).natAbs:Int)<=a*(x.2*y.2):=by
  rw[WJ,Wa,Xu x.2, <-WE];have:((x.2.natAbs:Nat):Int)=x.2:=by have:=h.1;lia
  rw[this];exact VT q.2 (by have:=h.1;lia)
 have d:((x.1*y.2+y.1*x.2).natAbs:Int)<=((x.1*y.2).natAbs:Int)+((y.1*x.2).natAbs:Int):=by exact_mod_cast Int.natAbs_add_le _ _
 have e:((β+a:Nat):Int)*(x.2*y.2)=β*(x.2*y.2)+a*(x.2*y.2):=by rw[Int.natCast_add,Int.add_mul]
 lia
def Mg.dS{β a:Nat}{x y:Fr}(h:Mg β x)(q:Mg a y):Mg (β+a) (dS x y):=by
 have:=h.plus q.neg;have e:Nt.plus x (cf y)=Nt.dS x y:=by unfold Nt.plus Nt.dS cf;simp only[Prod.mk.injEq,and_true];grind
 rwa[e] at this
def Mg.bI{β a:Nat}{x y:Fr}(h:Mg β x)(q:Mg a y):Mg (β*a) (bI x y):=by
 refine⟨ft h.1 q.1,?_⟩;show((x.1*y.1).natAbs:Int)<=((β*a:Nat):Int)*(x.2*y.2);rw[WJ,Wa,Wa];have e:(β:Int)*a*(x.2*y.2)=(β*x.2)*(a*y.2):=by grind
 rw[e];exact Int.mul_le_mul h.2 q.2 ⋯ (by have:=h.1;exact Int.mul_nonneg ⋯ ⋯)
def Mg.getD{β:Nat}{r:aG}(h:∀x,x∈r->Mg β x)(i:Nat):Mg β (r.getD i am):=by
 rw[Vd];cases a:r[i]? with
 |none=>exact Mg.zero.aF ⋯
 |some x=>exact h x (Vf a)
theorem Bf{β:Nat}:∀(ts:List bQ)(r:aG)(c:Nat),(∀a,a∈ts->Mg β a.2)->(∀x,x∈r->Mg c x)->
  cy (iu r ts)<=cy r*eT ts/\∀x,x∈iu r ts->Mg (c+ts.length*β) x
 |[],r,c,_,h=>⟨by show cy r<=cy r*1;lia,λx b=>(h x b).aF ⋯⟩
 |a::ts,r,c,d,h=>by
  have f:=d a (by simp);have g:∀x,x∈kR r a->Mg (c+β) x:=by
   intro x b;unfold kR at b;rcases V7 b with h'|h'
   ·exact(h x h').aF ⋯
   ·subst h';exact(Mg.getD h _).plus f
  obtain⟨i,j⟩:=Bf ts (kR r a) (c+β) (λa e=>d a (by simp[e])) g;refine⟨Wp i ?_,λx b=>(j x b).aF ?_⟩
  ·show _<=cy r*(a.2.2*eT ts);rw[<-WE];refine VT ?_ (Int.le_of_lt (vT λt' e=>(d t' (by simp[e])).1));rcases Fi r a.1 a.2 with q|q|q
   ·exact q
   ·exact absurd f.1 q
   ·exact absurd (λx b=>(h x b).1) q
  ·rw[Vu,Nat.add_mul];lia
def Q0(m:Nat):cy (List.replicate m am)=1:=by
 induction m with
 |zero=>rfl
 |succ m a=>rw[List.replicate_succ];show 1*cy _=1;lia
def BC{β m:Nat}{ts:List bQ}(g:∀e,e∈ts->Mg β e.2):(0<aR (cz m ts)/\aR (cz m ts)<=eT ts)/\cy (cz m ts)<=eT ts/\∀x,x∈cz m ts->Mg (ts.length*β) x:=by
 obtain⟨f,b⟩:=Bf ts (List.replicate m am) 0 g (λx a=>by rw[V_ a];exact Mg.zero);rw[Q0] at f;have c:=sY (cz m ts) λx a=>(b x a).1;have d:cy (cz m ts)<=eT ts:=by unfold cz;lia
 exact⟨⟨c.1,Wp c.2 d⟩,d,λx a=>(b x a).aF ⋯⟩
structure tR(ps:bh):Prop where
 oC:ps.length<=10
 aX:∀p,p∈ps-> -1000000<=p.q.1/\p.q.1<=1000000
 ib:∀p,p∈ps->1<=p.q.2/\p.q.2<=1000000
structure lD(aj:Fr):Prop where
 sn:Mg 2000000 aj
 ib:aj.2<=1000000
def hU:Nat:=2000000000000
def g_(a:bQ):Prop:=Mg hU a.2/\a.2.2<=1000000000000
def me(a:bQ):Prop:=Mg 1 a.2/\a.2.2=1
def me.w{a:bQ}(h:me a):g_ a:=⟨h.1.aF ∅,by rw[h.2];decide⟩
def Bc{P:bQ->Prop}{a b:Int}{x:Fr}(e:∀i,P (i,x))(f:∀i,P (i,cf x)):(∀d,d∈iq a b x->P d)/\(iq a b x).length<=2:=by
 unfold iq n9;constructor
 ·intro d c
  repeat' split at c
  all_goals simp at c
  ·subst c;exact f _
  ·subst c;exact e _
  ·rcases c with rfl|rfl
   ·exact e _
   ·exact f _
 ·repeat' split
  all_goals simp
section
variable{N:Nat}{ps:bh}{ws:c_}(G:m8 N ps)(Q:tR ps)
include G
theorem Ti{k:Nat}{states:ao}:(∀a,a∈gv (ak N ps ws) k states->me a)/\(gv (ak N ps ws) k states).length<=2:=by
 unfold gv;split
 ·simp
 ·split
  ·constructor
   ·intro a b;simp only[VH] at b;subst b;exact⟨Mg.one,rfl⟩
   ·simp
  ·exact Bc (λi=>⟨Mg.one,rfl⟩) (λi=>⟨Mg.one.neg,rfl⟩)
include Q
theorem zD{p:cJ}(a:p∈ps):Mg 1000000 p.q:=by have b:=Q.aX p a;have c:=Q.ib p a;refine⟨by omega,?_⟩;have:(1000000:Int)*1<=1000000*p.q.2:=VX (by omega) (by omega);show((p.q.1.natAbs:Nat):Int)<=((1000000:Nat):Int)*p.q.2;have e:((1000000:Nat):Int)=1000000:=rfl;rw[e];omega
theorem yN(k:Nat):(cP ps k).length<=11:=by
 unfold cP;split
 ·simp
 ·rw[Vu];have b:∀l:bh,(l.flatMap (dN k)).length<=l.length:=by
   intro l;induction l with
   |nil=>simp
   |cons a l c=>
    rw[VZ,Vw,Vu]
    have:(dN k a).length<=1:=by unfold dN;repeat' split
                                all_goals simp
    lia
  have:=b ps;have:=Q.oC;lia
theorem yO{k:Nat}(b:k<ps.length){x:Int×Fr}(a:x∈cP ps k):∃p,p∈ps/\x.2=p.q:=by
 unfold cP at a;split at a
 ·simp at a
 ·rcases Vo.mp a with rfl|a
  ·exact⟨_,eD b,rfl⟩
  ·obtain⟨p,c,a⟩:=V'.mp a;refine⟨p,c,?_⟩;unfold dN at a
   repeat' split at a
   all_goals simp at a
   all_goals (subst a;rfl)
theorem Te{k:Nat}(g:k<ps.length){aj:Fr}(s:lD aj):(∀c,c∈fT (ak N ps ws) k aj->g_ c)/\(fT (ak N ps ws) k aj).length<=11/\((ps.getD k ae).kind=10->(fT (ak N ps ws) k aj).length<=2):=by
 have r:=eD g;have l:=zD G Q r;have o:=Q.ib _ r;have n:∀i,g_ (i,cf (ps.getD k ae).q):=λi=>⟨l.neg.aF ∅,by show(ps.getD k ae).q.2<=_;lia⟩
 have M:∀i,g_ (i,(ps.getD k ae).q):=λi=>⟨l.aF ∅,by show(ps.getD k ae).q.2<=_;lia⟩
 have D:∀(i:Nat)(y:Fr),Mg 1000000 y->1<=y.2->y.2<=1000000->g_ (i,bI aj y):=λi y E L F=>by
  refine⟨(s.sn.bI E).aF ∅,?_⟩;show aj.2*y.2<=_;have:aj.2*y.2<=1000000*1000000:=Int.mul_le_mul s.ib F ⋯ ∅
  lia
 have B:∀(i:Nat)(y:Fr),g_ (i,y)->g_ (i,cf y):=λi y h=>⟨h.1.neg,h.2⟩
 unfold fT;show(∀c,c∈(if (ps.getD k ae).kind=11 then _ else if iQ (ps.getD k ae).kind=true then _ else if (ps.getD k ae).kind=0 then _ else if (ps.getD k ae).kind=1 then _ else if (ps.getD k ae).kind=2 then _ else if gG (ps.getD k ae).kind=true then _ else _)->g_ c)/\(if (ps.getD k ae).kind=11 then _ else if iQ (ps.getD k ae).kind=true then _ else if (ps.getD k ae).kind=0 then _ else if (ps.getD k ae).kind=1 then _ else if (ps.getD k ae).kind=2 then _ else if gG (ps.getD k ae).kind=true then _ else _:List bQ).length<=11/\(_->(if (ps.getD k ae).kind=11 then _ else if iQ (ps.getD k ae).kind=true then _ else if (ps.getD k ae).kind=0 then _ else if (ps.getD k ae).kind=1 then _ else if (ps.getD k ae).kind=2 then _ else if gG (ps.getD k ae).kind=true then _ else _:List bQ).length<=2);have f:∀{a b:Int}{x:Fr},(∀i,g_ (i,x))->(∀c,c∈iq a b x->g_ c)/\(iq a b x).length<=11/\((ps.getD k ae).kind=10->(iq a b x).length<=2):=λ{a b x} h=>by obtain⟨J,K⟩:=Bc (a:=a) (b:=b) (P:=g_) h (λi=>B i x (h i));exact⟨J,⋯,λ_=>K⟩
 have C:∀{c:bQ},g_ c->(∀t',t'∈[c]->g_ t')/\([c]).length<=11/\((ps.getD k ae).kind=10->([c]).length<=2):=λ{c} h=>by refine⟨λt' d=>?_,by simp,by simp⟩;simp only[VH] at d;subst d;exact h
 by_cases v:(ps.getD k ae).kind=11
 ·simp only[Vh v];exact f λi=>me.w ⟨Mg.one,rfl⟩
 ·simp only[Vg v];by_cases m:iQ (ps.getD k ae).kind=true
  ·simp only[Vh m];exact f n
  ·simp only[Vg m];have I:¬(ps.getD k ae).kind=10:=λq=>m (by rw[q];rfl);by_cases t:(ps.getD k ae).kind=0
   ·simp only[Vh t];exact C (n _)
   ·simp only[Vg t];by_cases u:(ps.getD k ae).kind=1
    ·simp only[Vh u];exact f λi=>D i _ l.neg o.1 o.2
    ·simp only[Vg u];by_cases z:(ps.getD k ae).kind=2
     ·simp only[Vh z];rw[sj G g];refine⟨λc d=>?_,by unfold nA;rw[Vn];exact yN G Q k,λq=>absurd q I⟩;unfold nA at d;obtain⟨x,H,rfl⟩:=Vz.mp d;obtain⟨p,j,e⟩:=yO G Q g H;rw[e];exact B _ _ (D _ _ (zD G Q j) (Q.ib p j).1 (Q.ib p j).2)
     ·simp only[Vg z];by_cases A:gG (ps.getD k ae).kind=true
      ·simp only[Vh A];exact C (n _)
      ·simp only[Vg A];simp
end
theorem zA:∀{ts:List bQ},(∀a,a∈ts->g_ a)->eT ts<=1000000000000^ts.length
 |[],_=>by decide
 |a::ts,h=>by show a.2.2*eT ts<=_;rw[Vu,Int.pow_succ,Xu _ (1000000000000:Int)];exact Int.mul_le_mul (h a (by simp)).2 (zA λx b=>h x (by simp[b])) (Int.le_of_lt (vT λx b=>(h x (by simp[b])).1.1)) ∅
theorem vS:∀{ts:List bQ},(∀a,a∈ts->me a)->eT ts=1
 |[],_=>rfl
 |a::ts,h=>by show a.2.2*eT ts=1;rw[(h a (by simp)).2,vS λx b=>h x (by simp[b])];rfl
def d9(β:Nat)(ts:List bQ):Nat:=(ts.length*β+1)*(eT ts).toNat
def wc{β m:Nat}{ts:List bQ}(h:∀b,b∈ts->Mg β b.2):(aR (cz m ts)).natAbs<=d9 β ts/\(∀x,x∈cS (cz m ts) (aR (cz m ts))->x.natAbs<=d9 β ts)/\0<d9 β ts:=by
 obtain⟨⟨d,o⟩,p,f⟩:=BC (m:=m) h;have s:=vT λb q=>(h b q).1;have k:∀c:Nat,c<=ts.length*β+1->c*(aR (cz m ts)).natAbs<=d9 β ts:=λc a=>Wt a ⋯;refine⟨by have:=k 1 ⋯;lia,λx i=>?_,Nat.mul_pos ⋯ ⋯⟩;unfold cS at i;obtain⟨y,j,rfl⟩:=Vz.mp i;have g:=f y j;obtain⟨c,a⟩:y.2∣aR (cz m ts):=At _ (λn l=>(f n l).1) y j;have t:=g.1;have e:aR (cz m ts)/y.2=c:=by rw[a];exact WM _ ⋯
 have r:0<c:=by rw[a] at d;exact W_ d ⋯
 rw[e];refine Vy ?_ (k (ts.length*β) ⋯);have u:((y.1*c).natAbs:Int)<=((ts.length*β:Nat):Int)*aR (cz m ts):=by
  rw[WJ,Wa,a, <-WE];have:((c.natAbs:Nat):Int)=c:=by lia
  rw[this];exact VT g.2 ⋯
 have v:(((ts.length*β)*(aR (cz m ts)).natAbs:Nat):Int)=((ts.length*β:Nat):Int)*aR (cz m ts):=by rw[Wa];congr 1;lia
 lia
noncomputable def gp(l:List Nat):Nat:=l.foldr (λa b=>a*b) 1
def Fj(a b:List Nat):gp (a++b)=gp a*gp b:=by
 induction a with
 |nil=>show gp b=1*gp b;lia
 |cons x a c=>show x*gp (a++b)=x*gp a*gp b;rw[c,Nat.mul_assoc]
def Q4(a:Nat):gp [a]=a:=Nat.mul_one a
def Q5(a b:Nat):gp [a,b]=a*b:=by show a*(b*1)=a*b;rw[Nat.mul_one]
def Q3:gp []=1:=rfl
theorem Ff:∀(l:List Nat),cI (λi=>l.getD i 1) l.length=gp l
 |[]=>rfl
 |a::l=>by show(a::l).getD 0 1*cI (λb=>(a::l).getD (b+1) 1) l.length=a*gp l;rw[<-Ff l];rfl
theorem Fk{c:Nat}(b:0<c):∀{l:List Nat},(∀x,x∈l->x<=c)->gp l<=c^l.length
 |[],_=>Vm _
 |a::l,h=>by show a*gp l<=_;rw[Vu,Xf,Nat.mul_comm _ c];exact Wt (h a (by simp)) (Fk b λx d=>h x (by simp[d]))
theorem CG{c:Nat}(f:Nat->List Nat):∀(l:List Nat),(∀k,k∈l->gp (f k)<=c)->gp (l.flatMap f)<=c^l.length
 |[],_=>Vm _
 |k::l,h=>by rw[VZ,Fj,Vu,Xf,Nat.mul_comm _ c];exact Wt (h k (by simp)) (CG f l λx a=>h x (by simp[a]))
theorem CF{b:Type}{c:Nat}(f:Nat->List b):∀(l:List Nat),(∀k,k∈l->(f k).length<=c)->(l.flatMap f).length<=l.length*c
 |[],_=>by simp
 |k::l,h=>by
  rw[VZ,Vw,Vu,Nat.add_mul];have:=h k (by simp);have:=CF f l λx a=>h x (by simp[a])
  lia
def gj:Nat:=2^484
def xL:1<=gj:=by unfold gj;exact Nat.one_le_two_pow
def Kv:(4*hU+1)*1000000000000^2*((2*hU+1)*1000000000000^2)<=gj:=by decide+kernel
def Kx:(4*hU+1)*1000000000000^2<=gj:=by decide+kernel
def Ky:(2*hU+1)*1000000000000^2<=gj:=by decide+kernel
def BN:(13*hU+1)*1000000000000^11<=gj:=by decide+kernel
def BO:41<=gj:=by decide+kernel
def Kw:28*(56^28*(41^8*gj^10))<=2^5051:=by decide+kernel
section
variable{N:Nat}{ps:bh}{ws:c_}(G:m8 N ps)(Q:tR ps)
include G Q
theorem ER(v:Nat){l:List Nat}(f:l.length<=10):(∀b,b∈l.flatMap (f8 (ak N ps ws) v)->me b)/\(l.flatMap (f8 (ak N ps ws) v)).length<=40:=by
 have d:∀i,me (i,bO):=λi=>⟨Mg.one,rfl⟩
 have e:∀i,me (i,cf bO):=λi=>⟨Mg.one.neg,rfl⟩
 constructor
 ·intro b a;obtain⟨k,_,a⟩:=V'.mp a;exact EQ d e a
 ·have:=CF (c:=4) (f8 (ak N ps ws) v) l λk _=>Qm
  lia
theorem x9{k:Nat}(r:k<ps.length){aj:Fr}(D:lD aj){states:ao}:(∀ts,ts∈d4 (ak N ps ws) aj states k->∀d,d∈ts->g_ d)/\gp ((d4 (ak N ps ws) aj states k).map (d9 hU))<=gj/\∀ts,ts∈d4 (ak N ps ws) aj states k->d9 hU ts<=gj:=by
 obtain⟨l,F⟩:=Ti (N:=N) (ps:=ps) (ws:=ws) G (k:=k) (states:=states);obtain⟨n,z,o⟩:=Te (N:=N) (ps:=ps) (ws:=ws) G Q r D;have s:=eD r;have E:g_ (0,(ps.getD k ae).q):=⟨(zD G Q s).aF ∅,by have:=(Q.ib _ s).2;show(ps.getD k ae).q.2<=_;omega⟩
 have m:∀d,d∈gv (ak N ps ws) k states++fT (ak N ps ws) k aj->g_ d:=λd g=>by
  rcases VQ.mp g with h|h
  ·exact(l d h).w
  ·exact n d h
 have t:eT (gv (ak N ps ws) k states++fT (ak N ps ws) k aj)<=1000000000000^(fT (ak N ps ws) k aj).length:=by rw[Q6,vS l,Int.one_mul];exact zA n
 have j:∀{ts:List bQ}{c e:Nat},ts.length<=c->eT ts<=1000000000000^e->d9 hU ts<=(c*hU+1)*1000000000000^e:=λ{ts c e} A B=>by
  unfold d9;refine Wt (by have:=W0 hU A;omega) ?_;have C:eT ts<=((1000000000000^e:Nat):Int):=by rw[Int.natCast_pow];exact B
  generalize (1000000000000^e:Nat)=H at C ⊢;omega
 have v:∀{a b:Nat},a<=b->(1000000000000:Int)^a<=1000000000000^b:=λ{a b} h=>by
  have:(1000000000000^a:Nat)<=1000000000000^b:=VW ∅ h;have p:∀e:Nat,(1000000000000:Int)^e=((1000000000000^e:Nat):Int):=λe=>by rw[Int.natCast_pow];rfl
  rw[p,p];exact_mod_cast this
 unfold d4;show(∀ts,ts∈(if (ps.getD k ae).kind=3 then _ else if (ps.getD k ae).kind=10 then _ else _)->_)/\gp (List.map _ (if (ps.getD k ae).kind=3 then _ else if (ps.getD k ae).kind=10 then _ else _))<=_/\∀ts,ts∈(if (ps.getD k ae).kind=3 then _ else if (ps.getD k ae).kind=10 then _ else _)->_;by_cases u:(ps.getD k ae).kind=3
 ·simp only[Vh u];exact⟨λts h=>by simp at h,by rw[WH,Q3];exact xL,λts h=>by simp at h⟩
 ·simp only[Vg u];by_cases i:(ps.getD k ae).kind=10
  ·simp only[Vh i];have f:=j (ts:=gv (ak N ps ws) k states++fT (ak N ps ws) k aj) (c:=4) (e:=2) (by rw[Vw];have:=o i;omega) (Wp t (v (o i)));have y:∀d,d∈([(((ak N ps ws).aW.getD k 0+1).toNat,bO),(((ak N ps ws).aW.getD k 0).toNat,((ak N ps ws).af.getD k ae).q)]:List bQ)->g_ d:=by
    intro d g;simp only[Vo,V8,W4] at g;rcases g with rfl|rfl
    ·exact me.w ⟨Mg.one,rfl⟩
    ·exact E
   have x:=j (ts:=([(((ak N ps ws).aW.getD k 0+1).toNat,bO),(((ak N ps ws).aW.getD k 0).toNat,((ak N ps ws).af.getD k ae).q)]:List bQ)) (c:=2) (e:=2) (by simp) (zA y);refine⟨λts h=>?_,?_,λts h=>?_⟩
   ·simp only[Vo,V8,W4] at h;rcases h with rfl|rfl
    ·exact m
    ·exact y
   ·rw[Vv,Vv,WH,Q5];exact Vy (Wt f x) Kv
   ·simp only[Vo,V8,W4] at h;rcases h with rfl|rfl
    ·exact Vy f Kx
    ·exact Vy x Ky
  ·simp only[Vg i];have f:=j (ts:=gv (ak N ps ws) k states++fT (ak N ps ws) k aj) (c:=13) (e:=11) (by rw[Vw];omega) (Wp t (v z));refine⟨λts h=>?_,?_,λts h=>?_⟩
   ·simp only[VH] at h;subst h;exact m
   ·rw[Vv,WH,Q4];exact Vy f BN
   ·simp only[VH] at h;subst h;exact Vy f BN
theorem KO:(ps.map cM).sum<=20:=by
 have:∀l:bh,(l.map cM).sum<=2*l.length:=by
  intro l;induction l with
  |nil=>simp
  |cons p l a=>
   rw[Vv,List.sum_cons,Vu]
   have:cM p<=2:=by unfold cM;repeat' split
                    all_goals lia
   lia
 have:=this ps;have:=Q.oC;lia
theorem wE(a:N<=8):bt N ps ps.length<=28:=by unfold bt;rw[Wj];have:=KO G Q;lia
theorem Rz(z:N<=8){aj:Fr}(C:lD aj){states:ao}:∃M:Nat->Nat,(∀i,0<M i/\M i<=gj)/\
  (∀i j,(fm (ak N ps ws) aj states)[i]? =some j->(aR j).natAbs<=M i/\∀x,x∈cS j (aR j)->x.natAbs<=M i)/\
  bt N ps ps.length*((2*bt N ps ps.length)^bt N ps ps.length*cI M (bt N ps ps.length))<=2^5051:=by
 obtain⟨g,B⟩:=vk (ws:=ws) G.ok aj states;have t:=wE G Q z;generalize O:bt N ps ps.length=m at g B t ⊢;generalize r:(List.range N).map (λv=>(List.range ps.length).flatMap (f8 (ak N ps ws) v))=A;generalize y:(List.range ps.length).flatMap (d4 (ak N ps ws) aj states)=d at g B;have g:fm (ak N ps ws) aj states=A.map (cz m)++d.map (cz m):=by rw[g, <-r,VS];rfl
 have w:A.length=N:=by rw[<-r];simp
 have n:∀ts,ts∈A->(∀b,b∈ts->Mg 1 b.2)/\d9 1 ts<=41:=by
  intro ts h;rw[<-r] at h;obtain⟨v,_,rfl⟩:=Vz.mp h;obtain⟨p,K⟩:=ER (ws:=ws) G Q v (l:=List.range ps.length) (by rw[Wz];exact Q.oC);refine⟨λb u=>(p b u).1,?_⟩;unfold d9;rw[vS p];show(_*1+1)*1<=41
  lia
 have q:∀ts,ts∈d->(∀b,b∈ts->Mg hU b.2)/\d9 hU ts<=gj:=by intro ts h;rw[<-y] at h;obtain⟨k,s,h⟩:=V'.mp h;obtain⟨p,K,L⟩:=x9 (ws:=ws) G Q (VB.mp s) C (states:=states);exact⟨λb u=>(p ts h b u).1,L ts h⟩
 have J:gp (d.map (d9 hU))<=gj^10:=by rw[<-y,List.map_flatMap];refine Vy (CG (c:=gj) _ _ λk s=>(x9 (ws:=ws) G Q (VB.mp s) C (states:=states)).2.1) ?_;rw[Wz];exact VW (VR ∅ xL) Q.oC
 have I:gp (A.map (d9 1))<=41^8:=by
  refine Vy (Fk (c:=41) ∅ (l:=A.map (d9 1)) λx F=>?_) ?_
  ·obtain⟨ts,h,rfl⟩:=Vz.mp F;exact(n ts h).2
  ·rw[Vn,w];exact VW ∅ z
 have E:(A.map (d9 1)++d.map (d9 hU)).length=m:=by rw[Vw,Vn,Vn,w];lia
 have D:=BO;refine⟨λi=>(A.map (d9 1)++d.map (d9 hU)).getD i 1,λi=>?_,λi j a=>?_,?_⟩
 ·simp only;rw[Vd];cases f:(A.map (d9 1)++d.map (d9 hU))[i]? with
  |none=>exact⟨∅,xL⟩
  |some x=>
   show 0<x/\x<=gj;rcases VQ.mp (Vf f) with h|h
   ·obtain⟨ts,h',rfl⟩:=Vz.mp h;have h:=h';exact⟨(wc (m:=m) (n ts h').1).2.2,Vy (n ts h').2 D⟩
   ·obtain⟨ts,h',rfl⟩:=Vz.mp h;exact⟨(wc (m:=m) (q ts h').1).2.2,(q ts h').2⟩
 ·rw[g] at a;simp only;by_cases o:i<A.length
  ·rw[WI (by simpa using o),Vq] at a;rw[Vd,WI (by simpa using o),Vq];rw[Ve o] at a ⊢;simp only[Wi,VC] at a;subst a;have:=wc (m:=m) (n _ (Vs o)).1;exact⟨this.1,this.2.1⟩
  ·rw[Wd (by simp;lia),Vq] at a;rw[Vd,Wd (by simp;lia),Vq];simp only[Vn] at a ⊢;cases f:d[i-A.length]? with
   |none=>rw[f] at a;simp at a
   |some ts=>rw[f] at a;simp only[Wi,VC] at a;subst a;have:=wc (m:=m) (q ts (Vf f)).1;exact⟨this.1,this.2.1⟩
 ·have e:cI (λi=>(A.map (d9 1)++d.map (d9 hU)).getD i 1) m<=41^8*gj^10:=by
   rw[<-E,Ff,Fj];exact Wt I J
  have H:(2*m)^m<=56^28:=Vy (Nat.pow_le_pow_left ⋯ m) (VW ∅ t);exact Vy (Wt t (Wt H e)) Kw
end
end Nt.Mt
namespace Nt
def bR(r:ao)(a:du):Rat:=cu (r.map λ(x:Int)=>(x:Rat)) a
theorem xV(a b:Int):∀(r s:ao)(c:du),r.length=s.length->bR (List.zipWith (λx y=>a*x-b*y) r s) c=a*bR r c-b*bR s c
 |[],[],_,_=>by simp[bR,cu];grind
 |[],_::_,_,h=>by simp at h
 |_::_,[],_,h=>by simp at h
 |x::r,y::s,c,h=>by
  have d:=xV a b r s (λk=>c (k+1)) (by simpa using h);unfold bR at d ⊢;simp only[List.zipWith_cons_cons,Vv,cu] at d ⊢;rw[d];have:(((a*x-b*y:Int)):Rat)=(a:Rat)*x-b*y:=by rw[Rat.intCast_sub,V1,V1]
  rw[this];grind
theorem xW(a:Int):∀(r:ao)(b:du),bR (r.map λx=>a*x) b=a*bR r b
 |[],_=>by simp[bR,cu]
 |x::r,b=>by have c:=xW a r (λk=>b (k+1));unfold bR at c ⊢;simp only[Vv,cu] at c ⊢;rw[c,V1];grind
def uj{r:ao}{f:Int->Int}(a:f 0=0)(k:Nat):(r.map f).getD k 0=f (r.getD k 0):=by
 rw[Vd,Vq,Vd];cases r[k]? with
 |none=>simp[a]
 |some x=>rfl
def jo{r:ao}(k:Nat):(r.map λ(x:Int)=>(x:Rat)).getD k 0=((r.getD k 0:Int):Rat):=by
 rw[Vd,Vq,Vd];cases r[k]? with
 |none=>simp
 |some x=>rfl
def mh{a b:Int}{r s:ao}{k:Nat}(h:r.length=s.length):(List.zipWith (λx y=>a*x-b*y) r s).getD k 0=a*r.getD k 0-b*s.getD k 0:=by
 simp only[Vd,List.getElem?_zipWith];by_cases c:k<r.length
 ·rw[Ve c,Ve (by omega)];rfl
 ·rw[Wn (by omega),Wn (by omega)];simp
def yk(l:ao):∀x,x∈l->de l∣x:=by
 have j:∀(m:ao)(a:Int),m.foldl cN a∣a/\∀x,x∈m->m.foldl cN a∣x:=by
  intro m;induction m with
  |nil=>intro a;exact⟨Int.dvd_refl _,λx h=>by simp at h⟩
  |cons b m i=>
   intro a;obtain⟨d,e⟩:=i (cN a b);have f:cN a b∣a:=Int.gcd_dvd_left ..;have g:cN a b∣b:=Int.gcd_dvd_right ..;refine⟨Int.dvd_trans d f,λx c=>?_⟩;rcases Vo.mp c with rfl|c
   ·exact Int.dvd_trans d g
   ·exact e x c
 exact(j l 0).2
def Sy(l:ao):∃a:Int,0<a/\l=(iY l).map λx=>a*x:=by
 unfold iY;split
 ·exact⟨1,⋯,by simp⟩
 ·have c:=yl l;refine⟨de l,⋯,?_⟩;rw[VS];symm
  conv=>rhs;rw[<-List.map_id l]
  apply V5;intro x b;show de l*(x/de l)=x;exact Int.mul_ediv_cancel' (yk l x b)
def kN(b:du)(a:a8):Prop:=∀(i:Nat)(r:ao),a[i]? =some r->bR r b=0
def oo(k:Nat)(a:a8):Prop:=∀(i:Nat)(r:ao),a[i]? =some r->∀j,j<k->(i=j->0<r.getD j 0)/\(i≠j->r.getD j 0=0)
def yH{l:ao}{k:Nat}{a:du}:bR (fO l k) a=0↔bR l a=0:=by
 unfold fO;split
 ·rfl
 ·have e:(l.map λx=> -x)=l.map λx=>(-1)*x:=by apply V5;intro x _;lia
  rw[e,xW];have:((-1:Int):Rat)= -1:=by simp
  rw[this];constructor<;>intro h<;>grind
def DD{l:ao}{k:Nat}(h:l.getD k 0≠0):0<(fO l k).getD k 0:=by
 unfold fO;split
 ·assumption
 ·rw[uj (by simp)];lia
def N6{l:ao}{k j:Nat}(h:l.getD j 0=0):(fO l k).getD j 0=0:=by
 unfold fO;split
 ·exact h
 ·rw[uj (by simp),h];simp
def lA{a:a8}{k p:Nat}(d:k<a.length)(f:p<a.length)(i:Nat):(dR a k p)[i]? =if i=k then some (fO (a.getD p []) k) else if i=p then some (a.getD k []) else a[i]? :=by
 unfold dR;simp only[List.getElem?_set,WD];by_cases b:i=k
 ·subst b;simp[d]
 ·rw[Vg (λe=>b e.symm),Vg b];by_cases c:i=p
  ·subst c;simp[f]
  ·rw[Vg (λe=>c e.symm),Vg c]
def S_{d:a8}{k p:Nat}(b:k<d.length)(c:p<d.length)(j:du):kN j (dR d k p)↔kN j d:=by
 constructor
 ·intro h i r a;by_cases g:i=p
  ·have:=h k _ (by rw[lA b c,Vh rfl]);rw[yH,Vd, <-g,a] at this;exact this
  ·by_cases f:i=k
   ·have:=h p _ (by rw[lA b c,Vg ⋯,Vh rfl]);rw[Vd, <-f,a] at this;exact this
   ·exact h i r (by rw[lA b c,Vg f,Vg g];exact a)
 ·intro h i r a;rw[lA b c] at a;split at a
  ·have e:=Vr a;rw[<-e,yH];exact h p _ (getD_some c)
  ·split at a
   ·have e:=Vr a;rw[<-e];exact h k _ (getD_some b)
   ·exact h i r a
def ID{b:a8}{k p:Nat}(d:k<b.length)(f:p<b.length)(g:k<=p)(h:oo k b):oo k (dR b k p):=by
 intro i r a j c;rw[lA d f] at a;split at a
 ·have e:=Vr a;rw[<-e];exact⟨λ_=>⋯,λ_=>N6 ((h p _ (getD_some f) j c).2 ⋯)⟩
 ·split at a
  ·have e:=Vr a;rw[<-e];exact⟨λ_=>⋯,λ_=>(h k _ (getD_some d) j c).2 ⋯⟩
  ·exact h i r a j c
def rG(a:a8)(k i:Nat):(jR a k)[i]? =(a[i]?).map λr=>hX a k i r:=by
 unfold jR;rw[mq];cases h:a[i]? with
 |none=>rfl
 |some r=>have:i<a.length:=(Vj.mp h).1;simp[this]
def pS{r a:ao}{k:Nat}(h:r.length=a.length):∃b:Int,0<b/\(∀c,(b:Rat)*bR (gR r a k) c=(a.getD k 0:Int)*bR r c-(r.getD k 0:Int)*bR a c)/\∀j,b*(gR r a k).getD j 0=a.getD k 0*r.getD j 0-r.getD k 0*a.getD j 0:=by
 obtain⟨b,d,e⟩:=Sy (List.zipWith (λx y=>a.getD k 0*x-r.getD k 0*y) r a);refine⟨b,d,λc=>?_,λj=>?_⟩
 ·rw[<-xV _ _ _ _ _ h];unfold gR
  conv=>rhs;rw[e]
  rw[xW]
 ·rw[<-mh h];unfold gR
  conv=>rhs;rw[e]
  rw[uj (by simp)]
def KH{n m k:Nat}{c:a8}(R:fX n m c)(z:k<n)(u:(c.getD k []).getD k 0≠0)(f:du):kN f (jR c k)↔kN f c:=by
 have A:=R.aC;have s:∀(i:Nat)(r:ao),c[i]? =some r->r.length=(c.getD k []).length:=λi r d=>by rw[R.row r (Vf d),R.row _ (eD ⋯)]
 have q:c[k]? =some (c.getD k []):=getD_some ⋯;generalize t:c.getD k []=g at u s q;have y:((g.getD k 0:Int):Rat)≠0:=by simpa using u
 constructor
 ·intro h i r d;have v:bR g f=0:=h k g (by rw[rG,q];simp[xQ]);have j:=h i (hX c k i r) (by rw[rG,d];rfl);unfold hX at j;split at j
  ·obtain⟨o,w,e,_⟩:=pS (k:=k) (s i r d);have e:=e f;rw[t] at j;rw[j,v] at e;generalize ((g.getD k 0:Int):Rat)=a at e y;generalize bR r f=b at e;grind
  ·exact j
 ·intro h i r d;rw[rG] at d;cases l:c[i]? with
  |none=>rw[l] at d;cases d
  |some p=>
   rw[l] at d;have e:=Vr d;rw[<-e];unfold hX;dsimp only;split
   ·obtain⟨o,w,e,_⟩:=pS (k:=k) (s i p l);have e:=e f;rw[t];rw[h i p l,h k g q] at e;have x:(o:Rat)≠0:=by
     have:o≠0:=by lia
     simpa using this
    generalize (o:Rat)=a at e x;generalize bR (gR p g k) f=b at e;grind
   ·exact h i p l
def BU{n m k:Nat}{a:a8}(R:fX n m a)(D:k<n)(p:0<(a.getD k []).getD k 0)(h:oo k a):oo (k+1) (jR a k):=by
 have E:=R.aC;have u:∀(i:Nat)(r:ao),a[i]? =some r->r.length=(a.getD k []).length:=λi r b=>by rw[R.row r (Vf b),R.row _ (eD ⋯)]
 have s:a[k]? =some (a.getD k []):=getD_some ⋯;generalize w:a.getD k []=t at p u s;intro i r b j C;rw[rG] at b;cases c:a[i]? with
 |none=>rw[c] at b;cases b
 |some d=>
  rw[c] at b;have e:=Vr b;rw[<-e];unfold hX;dsimp only;split
  ·rename_i g;obtain⟨f,B,_,e⟩:=pS (k:=k) (u i d c);have e:=e j;rw[w];generalize (gR d t k).getD j 0=x at e;by_cases o:j=k
   ·subst o;refine⟨λq=>absurd q g.1,λ_=>?_⟩;have:f*x=0:=by rw[e,Xu];lia
    rcases Xb.mp this with q|q
    ·lia
    ·exact q
   ·have y:t.getD j 0=0:=(h k t s j ⋯).2 ⋯;obtain⟨z,A⟩:=h i d c j ⋯;rw[y] at e;refine⟨λq=>?_,λq=>?_⟩
    ·have:=WK p (z q);have v:0<f*x:=by rw[e];lia
     exact W_ v ⋯
    ·rw[A q] at e;have:f*x=0:=by rw[e];simp
     rcases Xb.mp this with q|q
     ·lia
     ·exact q
  ·rename_i g;by_cases o:j=k
   ·subst o;by_cases l:i=j
    ·subst l;rw[s] at c;have:=Vr c;rw[<-this];exact⟨λ_=>p,λq=>absurd rfl q⟩
    ·refine⟨λq=>absurd q l,λ_=>?_⟩;exact Xx λq=>g ⟨l,q⟩
   ·exact h i d c j ⋯
theorem E8{a:a8}{k:Nat}:∀(f p:Nat),nJ a k f p=none->∀i,p<=i->i<p+f->kZ a i k=0
 |0,_,_,i,_,_=>by lia
 |f+1,p,h,i,b,d=>by
  unfold nJ at h;split at h
  ·cases h
  ·rename_i q;by_cases e:i=p
   ·subst e;exact Xx λc=>q c
   ·exact E8 f (p+1) h i ⋯ ⋯
def SF{n m k:Nat}{b:a8}(R:fX n m b)(u:k<n)(w:n<=m)(h:oo k b)(q:kF b k=none):
  ∃g:Nat->Rat,g k=1/\(∀j,k<j->g j=0)/\kN g b:=by
 refine⟨λj=>if j=k then 1 else if j<k then-(((kZ b j k:Int):Rat)/((kZ b j j:Int):Rat)) else 0,by simp,λj p=>by simp only[];rw[Vg ⋯,Vg ⋯],λi r c=>?_⟩;have v:=R.aC;have t:i<b.length:=(Vj.mp c).1;have y:=R.row r (Vf c);have o:∀j,kZ b i j=r.getD j 0:=λj=>by unfold kZ;rw[Vd (l:=b),c];rfl
 unfold bR;by_cases f:i<k
 ·rw[xY _ _ i k f (by simp;lia) (λj p s e=>?_)]
  ·simp only[jo,Vh,Vg (show ¬i=k by lia),Vh f,o];have x:=(h i r c i f).1 rfl;have:((r.getD i 0:Int):Rat)≠0:=by
    have:r.getD i 0≠0:=by lia
    simpa using this
   generalize ((r.getD i 0:Int):Rat)=a at this ⊢;grind
  ·rw[jo];by_cases d:j<k
   ·rw[(h i r c j d).2 ⋯];simp
   ·simp only[Vg e,Vg d];grind
 ·rw[rL _ _ (λj p=>?_)];rw[jo];by_cases d:j<k
  ·rw[(h i r c j d).2 ⋯];simp
  ·by_cases e:j=k
   ·have:=E8 _ _ q i ⋯ ⋯;rw[o] at this;rw[e,this];simp
   ·simp only[Vg e,Vg d];grind
theorem Aw{n m:Nat}{b:a8}(R:fX n m b)(r:n<=m):∀k,k<=n->
  (∃l,fS b k=some l/\oo k l/\∀a,kN a l↔kN a b)\/
  (fS b k=none/\∃a:Nat->Rat,(∃j,j<n/\a j≠0)/\(∀j,n<=j->a j=0)/\kN a b)
 |0,_=>.inl ⟨b,rfl,λ_ _ _ j h=>⋯,λa=>Iff.rfl⟩
 |k+1,A=>by
  rcases Aw R r k ⋯ with ⟨c,d,e,q⟩|⟨d,e⟩
  ·have g:=tf R ⋯ d;have B:=g.aC;cases f:kF c k with
   |none=>
    refine .inr ⟨?_,?_⟩
    ·show(fS b k).bind _=none;rw[d];show elim c k=none;unfold elim;rw[f];rfl
    ·obtain⟨a,w,x,y⟩:=SF g ⋯ r e f;exact⟨a,⟨k,⋯,by rw[w];grind⟩,λj z=>x j ⋯,(q a).mp y⟩
   |some p=>
    obtain⟨s,i,v⟩:=vO f;have o:=g.qC (k:=k) (p:=p) ⋯ ⋯;have t:(dR c k p).getD k []=fO (c.getD p []) k:=by rw[Vd,lA ⋯ i,Vh rfl];rfl
    have u:0<((dR c k p).getD k []).getD k 0:=by rw[t];exact DD v
    refine .inl ⟨jR (dR c k p) k,?_,BU o ⋯ u (ID ⋯ i s e),λa=>?_⟩
    ·show(fS b k).bind _=_;rw[d];show elim c k=_;unfold elim;rw[f];rfl
    ·rw[KH o ⋯ ⋯,S_ ⋯ i,q]
  ·refine .inr ⟨?_,e⟩;show(fS b k).bind _=none;rw[d];rfl
def Sn{s:Int}{x:Fr}(k:0<s)(d:0<x.2):0<fR s x/\s∣fR s x/\x.2∣fR s x:=by
 have l:=C8 (x:=s) d;have g:cN s x.2∣s:=Int.gcd_dvd_left ..;have h:cN s x.2∣x.2:=Int.gcd_dvd_right ..;unfold fR;generalize cN s x.2=f at*;obtain⟨a,i⟩:=g;obtain⟨b,c⟩:=h;have e:x.2/f=b:=by rw[c];exact WM _ (by omega)
 rw[e];have j:0<b:=by rw[c] at d;exact W_ d (by omega)
 refine⟨WK k j,⟨b,rfl⟩,⟨a,?_⟩⟩;rw[i,c];grind
def sX(l:aG)(h:∀x,x∈l->0<x.2):0<aR l/\∀x,x∈l->x.2∣aR l:=by
 have j:∀(m:aG)(s:Int),0<s->(∀x,x∈m->0<x.2)->0<m.foldl fR s/\s∣m.foldl fR s/\∀x,x∈m->x.2∣m.foldl fR s:=by
  intro m;induction m with
  |nil=>intro s c _;exact⟨c,Int.dvd_refl _,λx h=>by simp at h⟩
  |cons a m i=>
   intro s c d;obtain⟨k,n,o⟩:=Sn c (d a (by simp));obtain⟨p,e,q⟩:=i (fR s a) k λx b=>d x (by simp[b]);refine⟨p,Int.dvd_trans n e,λx b=>?_⟩;rcases Vo.mp b with rfl|b
   ·exact Int.dvd_trans o e
   ·exact q x b
 obtain⟨f,_,g⟩:=j l 1 ⋯ h;exact⟨f,g⟩
def Au{x:Fr}{s:Int}(d:0<x.2)(b:x.2∣s):((x.1*(s/x.2):Int):Rat)=(s:Rat)*fr x:=by
 obtain⟨c,a⟩:=b;have e:s/x.2=c:=by rw[a];exact WM _ ⋯
 rw[e,a,V1,V1];unfold fr;have:(x.2:Rat)≠0:=by
  have:x.2≠0:=by lia
  simpa using this
 grind
theorem Ce:∀(a b:List Rat)(c:du),cu (a++b) c=cu a c+cu b λk=>c (a.length+k)
 |[],b,c=>by simp[cu];grind
 |x::a,b,c=>by
  have d:=Ce a b λk=>c (k+1);simp only[List.cons_append,cu,d,Vu];have:(λk=>c (a.length+1+k))=λk=>c (a.length+k+1):=by funext k;congr 1;lia
  rw[this];grind
def uD(a b:ao)(c:du):bR (a++b) c=bR a c+bR b λk=>c (a.length+k):=by unfold bR;rw[VN,Ce,Vn]
def Mz{l:aG}{s:Int}(h:∀x,x∈l->0<x.2/\x.2∣s)(b:du):bR (cS l s) b=s*cu (l.map fr) b:=by unfold bR cS;rw[<-uE,VS,VS];congr 1;apply V5;intro x a;exact Au (h x a).1 (h x a).2
def Cd{n i:Nat}{a:aG}(h:a.length=n)(d:i<n)(c:∀x,x∈a->0<x.2)(b:du):bR (kr n i a) b=aR a*(cu (a.map fr) b+b (n+i)):=by
 obtain⟨l,g⟩:=sX a c;unfold kr;rw[uD,Mz (λx f=>⟨c x f,g x f⟩)];have e:(cS a (aR a)).length=n:=by unfold cS;rw[Vn];exact h
 rw[e];have:bR ((List.replicate n (0:Int)).set i (aR a)) (λk=>b (n+k))=aR a*b (n+i):=by
  unfold bR;rw[nk _ _ i (by simpa using d) (λk m j=>?_)]
  ·rw[jo,Vd,Wq (by simpa using d)];rfl
  ·rw[jo,Vd,Ww (λq=>j q.symm),Wf];split<;>simp
 rw[this];grind
def As{a:aG}(b:∀x,x∈a->0<x.2):((aR a:Int):Rat)≠0:=by
 have:=(sX a b).1;have:aR a≠0:=by lia
 simpa using this
def rP{n:Nat}{laws:cv}{b:aG}(a:kh n laws b):fX n (n+n) (eK laws):=by refine⟨by unfold eK;rw[Xt];exact a.aC,λr c=>?_⟩;unfold eK at c;obtain⟨i,d,rfl⟩:=List.mem_mapIdx.mp c;unfold kr cS;have:=a.qN _ (Vs d);have:=a.aC;simp;lia
def rO{laws:cv}{i:Nat}:(eK laws)[i]? =(laws[i]?).map λa=>kr laws.length i a:=by unfold eK;rw[Xk]
def jF(n:Nat)(a:Rat)(b:aG)(c:du):Nat->Rat:=λk=>if k<n then c k else-(a*fr (b.getD (k-n) am))
theorem xX:∀(r:List Rat)(a b:du),(∀k,k<r.length->a k=b k)->cu r a=cu r b
 |[],_,_,_=>rfl
 |x::r,a,b,h=>by show x*a 0+cu r _=x*b 0+cu r _;rw[h 0 (by simp),xX r _ _ λk c=>h (k+1) (by simpa using c)]
def yn{n:Nat}{laws:cv}{b:aG}(l:kh n laws b)(d:Rat)(f:du):
  kN (jF n d b f) (eK laws)↔∀r,r∈gO laws b->ev d r f=0:=by
 have u:=l.aC;have v:=l.yI;subst u;have s:∀i (g:i<laws.length) (p:i<b.length),bR (kr laws.length i laws[i]) (jF laws.length d b f)=aR laws[i]*ev d (laws[i].map fr,fr b[i]) f:=by
  intro i g p;have q:=l.qN _ (Vs g);rw[Cd q ⋯ (l.den _ (Vs g))];unfold ev;dsimp only;rw[xX (laws[i].map fr) (jF laws.length d b f) f (λk t=>by unfold jF;rw[Vh (by simpa[q] using t)])];have:jF laws.length d b f (laws.length+i)= -(d*fr b[i]):=by unfold jF;rw[Vg ⋯,show laws.length+i-laws.length=i by lia,Vd,Ve p];rfl
  rw[this];grind
 constructor
 ·intro h r j;obtain⟨i,g,rfl⟩:=V6 j;have m:i<laws.length/\i<b.length:=by simpa[gO,Nat.lt_min] using g
  have:=h i _ (by rw[rO,Ve m.1];rfl);dsimp only at this;rw[s i m.1 m.2] at this;have w:=As (l.den _ (Vs m.1));have e:(gO laws b)[i]=(laws[i].map fr,fr b[i]):=by simp[gO]
  rw[e];generalize ((aR laws[i]:Int):Rat)=a at*;generalize ev d (laws[i].map fr,fr b[i]) f=c at*;grind
 ·intro h i r j;rw[rO] at j;cases o:laws[i]? with
  |none=>rw[o] at j;cases j
  |some x=>rw[o] at j;have e:=Vr j;obtain⟨g,rfl⟩:=Vj.mp o;rw[<-e];dsimp only;rw[s i g ⋯];have:ev d (laws[i].map fr,fr (b[i]'⋯)) f=0:=h _ (List.mem_iff_getElem.mpr ⟨i,by simp[gO];lia,by simp[gO]⟩);rw[this];grind
def Io{n:Nat}{laws:cv}{b:aG}(a:kh n laws b):(∀r,r∈gO laws b->r.1.length=n)/\(gO laws b).length=n:=by
 have:=a.aC;have:=a.yI;refine⟨λr f=>?_,by simp[gO];lia⟩;obtain⟨i,c,rfl⟩:=V6 f;have d:i<laws.length/\i<b.length:=by simpa[gO,Nat.lt_min] using c
 have e:(gO laws b)[i]=(laws[i].map fr,fr b[i]):=by simp[gO]
 rw[e];simp[a.qN _ (Vs d.1)]
def HX{n:Nat}{laws:cv}{b:aG}(c:kh n laws b)(h:solve (eK laws)=none):Wh.solve n (gO laws b)=none:=by
 have R:=rP c;obtain⟨m,q⟩:=Io c;rcases Aw R ⋯ n (Vm n) with ⟨r,f,_⟩|⟨_,a,⟨j,i,o⟩,p,d⟩
 ·unfold solve at h;rw[R.aC,f] at h;cases h
 ·cases l:Wh.solve n (gO laws b) with
  |none=>rfl
  |some x=>
   exfalso;obtain⟨_,_,_,g⟩:=HZ m l;have e:a=jF n 0 b a:=by
    funext k;unfold jF;split
    ·rfl
    ·rw[p k ⋯];grind
   rw[e] at d;have:=g 0 a ((yn c 0 a).mp d) j i;apply o;rw[this];grind
theorem IB:∀(r a:ao)(b:du)(s:Rat),r.length=a.length->(∀k,k<a.length->((a.getD k 0:Int):Rat)=s*b k)->(((List.zipWith (λx y=>x*y) r a).sum:Int):Rat)=s*bR r b
 |[],[],_,_,_,_=>by simp[bR,cu]
 |[],_::_,_,_,h,_=>by simp at h
 |_::_,[],_,_,h,_=>by simp at h
 |x::r,y::a,b,s,h,c=>by have d:=IB r a (λk=>b (k+1)) s (by simpa using h) (λk f=>c (k+1) (by simpa using f));have e:=c 0 (by simp);unfold bR at d ⊢;simp only[List.zipWith_cons_cons,List.sum_cons,Vv,cu];rw[Rat.intCast_add,d,V1];have:(y:Rat)=s*b 0:=e;rw[this];grind
def Ax{n:Nat}{laws:cv}{b:aG}(m:kh n laws b){s:a8}(h:solve (eK laws)=some s):
  Wh.solve n (gO laws b)=some ((fD s b).map fr)/\∀x,x∈fD s b->0<x.2:=by
 have R:=rP m;obtain⟨K,S⟩:=Io m;have T:=m.yI;unfold solve at h;rw[R.aC] at h;have z:=tf R (Vm n) h;have J:=z.aC;obtain⟨W,X⟩:=sX b m.xS;rcases Aw R ⋯ n (Vm n) with ⟨ag,o,H,G⟩|⟨o,_⟩
 ·rw[h] at o;have:=Vr o;subst this;have A:∀(k:Nat)(r:ao),s[k]? =some r->0<r.getD k 0:=λk r f=>(H k r f k (by have:=(Vj.mp f).1;lia)).1 rfl;have N:∀(l:Rat)(g:du)(k:Nat)(r:ao),s[k]? =some r->bR r (jF n l b g)=(r.getD k 0:Int)*g k-l*bR (r.drop n) (λj=>fr (b.getD j am)):=by
   intro l g k r f;have i:k<n:=by have:=(Vj.mp f).1;lia
   have V:=z.row r (Vf f)
   conv=>lhs;rw[<-Xg n r]
   rw[uD];have F:(r.take n).length=n:=by rw[V0];lia
   rw[F];have B:bR (r.take n) (jF n l b g)=(r.getD k 0:Int)*g k:=by
    unfold bR;rw[nk _ _ k (by rw[Vn];lia) (λj t ad=>?_)]
    ·rw[jo];have:(r.take n).getD k 0=r.getD k 0:=by rw[Vd,List.getElem?_take,Vh i,Vd]
     rw[this];unfold jF;rw[Vh i]
    ·rw[jo];rw[Vn,F] at t;have:(r.take n).getD j 0=r.getD j 0:=by rw[Vd,List.getElem?_take,Vh t,Vd]
     rw[this,(H k r f j t).2 ⋯];simp
   have Q:bR (r.drop n) (λj=>jF n l b g (n+j))= -(l*bR (r.drop n) (λj=>fr (b.getD j am))):=by
    have:(λj=>jF n l b g (n+j))=λj=> -(l*fr (b.getD j am)):=by funext j;unfold jF;rw[Vg ⋯,show n+j-n=j by lia]
    rw[this];unfold bR;generalize (r.drop n).map (λ(x:Int)=>(x:Rat))=q;have ab:∀(q:List Rat)(w:du),cu q (λj=> -(l*w j))= -(l*cu q w):=by
     intro q;induction q with
     |nil=>intro w;simp[cu]
     |cons a q aa=>intro w;simp only[cu];rw[aa (λk=>w (k+1))];grind
    exact ab q _
   rw[B,Q];grind
  have P:∀(k:Nat)(r:ao),s[k]? =some r->fr (unknown n (cS b (aR b)) (aR b) k r)*(r.getD k 0:Int)=bR (r.drop n) (λj=>fr (b.getD j am))/\0<(unknown n (cS b (aR b)) (aR b) k r).2:=by
   intro k r f;have E:=A k r f;have V:=z.row r (Vf f);refine⟨?_,WK E W⟩;unfold unknown fr;dsimp only;have L:(cS b (aR b)).length=n:=by unfold cS;rw[Vn];exact T
   rw[IB (r.drop n) (cS b (aR b)) (λj=>fr (b.getD j am)) (aR b:Int) (by rw[V9];lia) (λj t=>?_)]
   ·have M:((r.getD k 0:Int):Rat)≠0:=by
     have:r.getD k 0≠0:=by lia
     simpa using this
    have af:=As m.xS;rw[V1];show((aR b:Int):Rat)*bR (r.drop n) (λj=>fr (b.getD j am))/(((r.getD k 0:Int):Rat)*((aR b:Int):Rat))*_=bR (r.drop n) (λj=>fr (b.getD j am));generalize bR (r.drop n) (λj=>fr (b.getD j am))=d;generalize ((r.getD k 0:Int):Rat)=a at*;generalize ((aR b:Int):Rat)=c at*;grind
   ·have u:j<b.length:=by lia
    have e:(cS b (aR b)).getD j 0=b[j].1*(aR b/b[j].2):=by unfold cS;rw[Vd,Vq,Ve u];rfl
    have B:b.getD j am=b[j]:=by rw[Vd,Ve u];rfl
    rw[e,B];exact Au (m.xS _ (Vs u)) (X _ (Vs u))
  have ah:(fD s b).length=n:=by unfold fD;rw[Xt];exact J
  have O:∀k,(fD s b)[k]? =(s[k]?).map λr=>unknown n (cS b (aR b)) (aR b) k r:=by intro k;unfold fD;rw[Xk,J]
  refine⟨?_,λx L=>?_⟩
  ·cases I:Wh.solve n (gO laws b) with
   |none=>
    exfalso;obtain⟨g,⟨k,i,Y⟩,C⟩:=SK K S I;have D:=(G _).mpr ((yn m 0 g).mpr C);have f:s[k]? =some (s.getD k []):=getD_some ⋯;have p:=D k _ f;rw[N 0 g k _ f] at p;have E:=A k _ f;have M:(((s.getD k []).getD k 0:Int):Rat)≠0:=by
     have:(s.getD k []).getD k 0≠0:=by lia
     simpa using this
    apply Y;generalize (((s.getD k []).getD k 0:Int):Rat)=a at*;generalize g k=y at*;grind
   |some x=>
    obtain⟨_,ae,C,_⟩:=HZ K I;congr 1;apply List.ext_getElem?;intro k;by_cases i:k<n
    ·have D:=(G _).mpr ((yn m 1 _).mpr C);have f:s[k]? =some (s.getD k []):=getD_some ⋯;have p:=D k _ f;rw[N 1 _ k _ f] at p;obtain⟨ac,_⟩:=P k _ f;rw[Vq,O k,f,getD_some (d:=(0:Rat)) ⋯];show some _=some _;congr 1;have E:=A k _ f;have M:(((s.getD k []).getD k 0:Int):Rat)≠0:=by
      have:(s.getD k []).getD k 0≠0:=by lia
      simpa using this
     rw[<-ac] at p;generalize (((s.getD k []).getD k 0:Int):Rat)=a at*;generalize x.getD k 0=y at*;generalize fr (unknown n (cS b (aR b)) (aR b) k (s.getD k []))=v at*;grind
    ·rw[Wn ⋯,Wn (by rw[Vn];lia)]
  ·obtain⟨k,i⟩:=List.mem_iff_getElem?.mp L;rw[O k] at i;cases f:s[k]? with
   |none=>rw[f] at i;cases i
   |some r=>rw[f] at i;rw[<-Vr i];exact(P k r f).2
 ·rw[h] at o;cases o
def fg(m:Nat)(b:a8)(w:ao):Prop:=w.length=m/\∀a,kN a b->bR w a=0
def fg.yL{m:Nat}{e:a8}{u v:ao}(a b:Int)(c:fg m e u)(d:fg m e v):fg m e (List.zipWith (λx y=>a*x-b*y) u v):=by refine⟨by rw[W9,c.1,d.1];lia,λg f=>?_⟩;rw[xV _ _ _ _ _ (by rw[c.1,d.1]),c.2 g f,d.2 g f];grind
def fg.mem{n m:Nat}{a:a8}(R:fX n m a){i:Nat}{r:ao}(h:a[i]? =some r):fg m a r:=⟨R.row r (Vf h),λc b=>b i r h⟩
structure m9(n:Nat)(rows:a8):Prop where
 gK:fX n (n+n) rows
 own:∀(i:Nat)(r:ao),rows[i]? =some r->0<r.getD (n+i) 0/\∀j,j<n->j≠i->r.getD (n+j) 0=0
def m9.MX{n:Nat}{c:a8}(f:m9 n c)(y:du):∃l:Nat->Rat,(∀k,k<n->l k=y k)/\kN l c:=by
 refine⟨λk=>if k<n then y k else-(bR ((c.getD (k-n) []).take n) y/(((c.getD (k-n) []).getD k 0:Int):Rat)),λk d=>by simp only[Vh d],λi r e=>?_⟩;have w:i<n:=by have:=(Vj.mp e).1;have:=f.gK.aC;lia
 have z:=f.gK.row r (Vf e);obtain⟨v,p⟩:=f.own i r e;have q:c.getD i []=r:=by rw[Vd,e];rfl
 conv=>lhs;rw[<-Xg n r]
 rw[uD];have g:(r.take n).length=n:=by rw[V0];lia
 rw[g];have m:bR (r.take n) (λk=>if k<n then y k else-(bR ((c.getD (k-n) []).take n) y/(((c.getD (k-n) []).getD k 0:Int):Rat)))=bR (r.take n) y:=by unfold bR;exact xX _ _ _ λk d=>by rw[Vn,g] at d;rw[Vh d]
 have h:∀j,(r.drop n).getD j 0=r.getD (n+j) 0:=λj=>by rw[Vd,List.getElem?_drop,Vd]
 have o:bR (r.drop n) (λk=>if n+k<n then y (n+k) else-(bR ((c.getD (n+k-n) []).take n) y/(((c.getD (n+k-n) []).getD (n+k) 0:Int):Rat)))= -bR (r.take n) y:=by
  unfold bR;rw[nk _ _ i (by simp;lia) (λj s u=>?_)]
  ·rw[jo,h,Vg ⋯,show n+i-n=i by lia,q];have:((r.getD (n+i) 0:Int):Rat)≠0:=by
    have:r.getD (n+i) 0≠0:=by lia
    simpa using this
   generalize ((r.getD (n+i) 0:Int):Rat)=a at*;generalize bR (r.take n) y=b;show a* -(cu ((r.take n).map λ(x:Int)=>(x:Rat)) y/a)= -cu ((r.take n).map λ(x:Int)=>(x:Rat)) y;grind
  ·have t:j<n:=by simp at s;lia
   rw[jo,h,p j t u];simp
 rw[m,o];grind
def m9.zero{n:Nat}{c:a8}(d:m9 n c){w:ao}(h:fg (n+n) c w)(a:∀j,j<n->w.getD (n+j) 0=0):∀j,w.getD j 0=0:=by
 intro j;by_cases e:j<n
 ·obtain⟨m,b,l⟩:=d.MX λk=>if k=j then 1 else 0
  have:=h.2 m l;unfold bR at this;rw[nk _ _ j (by rw[Vn,h.1];lia) (λk f i=>?_)] at this
  ·rw[jo,b j e,Vh rfl] at this;have:((w.getD j 0:Int):Rat)=0:=by grind
   simpa using this
  ·rw[jo];by_cases g:k<n
   ·rw[b k g,Vg i];grind
   ·rw[Vn,h.1] at f;have:=a (k-n) ⋯;rw[show n+(k-n)=k by lia] at this;rw[this];simp
 ·by_cases o:j<n+n
  ·have:=a (j-n) ⋯;rwa[show n+(j-n)=j by lia] at this
  ·rw[Vd,Wn (by rw[h.1];lia)];rfl
def kQ(n:Nat)(a:a8)(P:Nat->Prop)(k:Nat):Prop:=∀w,fg (n+n) a w->(∀j,j<n->¬P j->w.getD (n+j) 0=0)->(∀j,j<k->w.getD j 0=0)->∀j,w.getD j 0=0
def kQ.start{n:Nat}{a:a8}(b:m9 n a):kQ n a (λ_=>False) 0:=λw h c _=>b.zero h λj d=>c j d id
def kQ.step{n k p:Nat}{f:a8}{P:Nat->Prop}(l:kQ n f P k){r:ao}(a:fg (n+n) f r)(t:∀j,j<n->¬(P j\/j=p)->r.getD (n+j) 0=0)
  (s:r.getD (n+p) 0≠0)(v:∀j,j<k->r.getD j 0=0)(o:r.getD k 0≠0):kQ n f (λj=>P j\/j=p) (k+1):=by
 intro w b m g;have i:=l _ (fg.yL (r.getD (n+p) 0) (w.getD (n+p) 0) b a) (λj c h=>by
  rw[mh (by rw[b.1,a.1])];by_cases e:j=p
  ·subst e;rw[Xu];lia
  ·rw[m j c (by simp[h,e]),t j c (by simp[h,e])];simp) (λj c=>by
  rw[mh (by rw[b.1,a.1]),g j ⋯,v j c];simp)
 have u:w.getD (n+p) 0=0:=by
  have:=i k;rw[mh (by rw[b.1,a.1]),g k ⋯] at this;have d:w.getD (n+p) 0*r.getD k 0=0:=by simpa using this
  rcases Xb.mp d with q|q
  ·exact q
  ·exact absurd q o
 intro j;have:=i j;rw[mh (by rw[b.1,a.1]),u] at this;have d:r.getD (n+p) 0*w.getD j 0=0:=by simpa using this
 rcases Xb.mp d with q|q
 ·exact absurd q s
 ·exact q
def No(a x y:Int)(b:0<=a):cN (a*x) (a*y)=a*cN x y:=by
 unfold cN;rw[Int.gcd_mul_left,Wa];congr 1
 lia
theorem C9(a:Int)(b:0<=a):∀(l:ao)(s:Int),(l.map λx=>a*x).foldl cN (a*s)=a*l.foldl cN s
 |[],_=>rfl
 |x::l,s=>by rw[Vv,V3,V3,No a s x b];exact C9 a b l _
def Nr(a:Int)(b:0<=a)(l:ao):de (l.map λx=>a*x)=a*de l:=by have:=C9 a b l 0;unfold de;rw[<-this];simp
def Nu{l:ao}(h:de l=0):∀x,x∈l->x=0:=λx a=>by have:=yk l x a;rw[h] at this;exact Int.zero_dvd.mp this
def Sx{l:ao}(h:de l≠0):de (iY l)=1:=by
 have b:=yl l;have e:l=(iY l).map λx=>de l*x:=by
  unfold iY;rw[Vg h,VS];symm
  conv=>rhs;rw[<-List.map_id l]
  apply V5;intro x d;exact Int.mul_ediv_cancel' (yk l x d)
 have a:=Nr (de l) b (iY l);rw[<-e] at a;have c:de l*1=de l*de (iY l):=by rw[<-a];lia
 exact(Int.eq_of_mul_eq_mul_left h c).symm
theorem Cg{d a:Int}:∀(l:ao)(s:Int),d∣a*s->(∀x,x∈l->d∣a*x)->d∣a*l.foldl cN s
 |[],s,h,_=>h
 |x::l,s,h,c=>by
  rw[V3];refine Cg l _ ?_ λy f=>c y (by simp[f]);have b:d∣((Int.gcd (a*s) (a*x):Nat):Int):=Int.dvd_coe_gcd h (c x (by simp));rw[Int.gcd_mul_left,Wa] at b;unfold cN;rcases Int.natAbs_eq a with e|e
  ·rw[<-e] at b;exact b
  ·rw[e,Int.neg_mul];exact Int.dvd_neg.mpr b
def Fe{r v:ao}{q:Nat}(f:de r=1)(d:v.getD q 0≠0)(h:∀j,r.getD q 0*v.getD j 0=v.getD q 0*r.getD j 0):∀j,(r.getD j 0).natAbs<=(v.getD j 0).natAbs:=by
 have c:r.getD q 0∣v.getD q 0*de r:=by refine Cg r 0 (by simp) λx k=>?_;obtain⟨j,a,rfl⟩:=V6 k;have:=h j;rw[Vd (l:=r) (i:=j),Ve a] at this;exact⟨v.getD j 0,this.symm⟩
 rw[f,Int.mul_one] at c;obtain⟨m,b⟩:=c;have g:r.getD q 0≠0:=λe=>d (by rw[b,e];simp);have n:m≠0:=λe=>d (by rw[b,e];simp);intro j;have a:=h j;rw[b,WE] at a;have e:=Int.eq_of_mul_eq_mul_left g a;rw[e,WJ];exact Nat.le_mul_of_pos_left _ ⋯
noncomputable def kj(m:Nat)(o:Nat->ao)(c:Nat->Int):Nat->ao
 |0=>List.replicate m 0
 |k+1=>List.zipWith (λx y=>1*x-(-c k)*y) (kj m o c k) (o k)
theorem BY{m:Nat}{a:a8}{o:Nat->ao}{c:Nat->Int}:∀k,(∀i,i<k->fg m a (o i))->fg m a (kj m o c k)
 |0,_=>by refine⟨by simp[kj],λe _=>?_⟩;unfold bR kj;exact rL _ _ λj d=>by rw[jo,Vd,Wf];split<;>simp
 |k+1,h=>fg.yL _ _ (BY k λi b=>h i ⋯) (h k ⋯)
theorem BX{m:Nat}{o:Nat->ao}{c:Nat->Int}(j:Nat):∀k,(∀i,i<k->(o i).length=m)->(kj m o c k).length=m/\(kj m o c k).getD j 0=eI (λi=>c i*(o i).getD j 0) k
 |0,_=>by refine⟨by simp[kj],?_⟩;unfold kj eI;rw[Vd,Wf];split<;>simp
 |k+1,h=>by obtain⟨a,d⟩:=BX (c:=c) j k λi e=>h i ⋯;have b:=h k ⋯;refine⟨by unfold kj;rw[W9,a,b];lia,?_⟩;unfold kj;rw[mh (by rw[a,b]),d];show _=eI (λi=>c i*(o i).getD j 0) k+c k*(o k).getD j 0;rw[Int.neg_mul];lia
def mW(b:dc)(k:Nat)(j:Nat):Prop:=∃a,a<k/\b a=j
structure Perm(n:Nat)(U:dc):Prop where
 lt:∀i,i<n->U i<n
 inj:∀i j,i<n->j<n->U i=U j->i=j
def kQ.of{n k:Nat}{a:a8}{P Q:Nat->Prop}(b:kQ n a P k)(h:∀j,Q j->P j):kQ n a Q k:=
 λw g c d=>b w g (λj e f=>c j e λq=>f (h j q)) d
def A9(b:a8)(r:ao):Prop:=∃(i:Nat)(a:ao),b[i]? =some a/\∀j,(r.getD j 0).natAbs=(a.getD j 0).natAbs
structure jM(n k:Nat)(rows rows':a8)(U:dc):Prop where
 eR:Perm n U
 gK:fX n (n+n) rows'
 jS:∀(i:Nat)(r:ao),rows'[i]? =some r->fg (n+n) rows r
 kJ:∀(i:Nat)(r:ao),rows'[i]? =some r->∀j,j<n->¬(mW U k j\/j=U i)->r.getD (n+j) 0=0
 own:∀(i:Nat)(r:ao),rows'[i]? =some r->k<=i->r.getD (n+U i) 0≠0
 nB:oo k rows'
 pq:kQ n rows (mW U k) k
 prim:∀(i:Nat)(r:ao),rows'[i]? =some r->de r=1\/A9 rows r
def jM.start{n:Nat}{rows:a8}(O:m9 n rows):jM n 0 rows rows λi=>i where
 eR:=⟨λ_ h=>h,λ_ _ _ _ h=>h⟩
 gK:=O.gK
 jS:=λi r h=>fg.mem O.gK h
 kJ:=λi r h j hj hn=>(O.own i r h).2 j hj λe=>hn (.inr e)
 own:=λi r h _=>by have:=(O.own i r h).1;lia
 nB:=λ_ _ _ j h=>by lia
 pq:=(kQ.start O).of λj ⟨t,h,_⟩=>by lia
 prim:=λi r h=>.inr ⟨i,r,h,λ_=>rfl⟩
def nW(k p:Nat)(a:dc):Nat->Nat:=λi=>if i=k then a p else if i=p then a k else a i
def IE{k p:Nat}{c:dc}(h:k<=p)(j:Nat):mW (nW k p c) k j↔mW c k j:=by
 constructor
 ·rintro⟨b,a,e⟩;refine⟨b,a,?_⟩;unfold nW at e;rw[Vg ⋯,Vg ⋯] at e;exact e
 ·rintro⟨b,a,e⟩;refine⟨b,a,?_⟩;unfold nW;rw[Vg ⋯,Vg ⋯];exact e
def DA(l:ao)(k j:Nat):((fO l k).getD j 0).natAbs=(l.getD j 0).natAbs:=by
 unfold fO;split
 ·rfl
 ·rw[uj (by simp),Int.natAbs_neg]
def DC{l:ao}{k j:Nat}:(fO l k).getD j 0=0↔l.getD j 0=0:=by have:=DA l k j;omega
def Nm(a x:Int):cN a (-x)=cN a x:=by unfold cN;rw[Int.gcd_neg]
def N5(l:ao)(k:Nat):de (fO l k)=de l:=by
 unfold fO;split
 ·rfl
 ·have:∀(l:ao)(s:Int),(l.map λx=> -x).foldl cN s=l.foldl cN s:=by
   intro l;induction l with
   |nil=>intro s;rfl
   |cons x l a=>intro s;rw[Vv,V3,V3,Nm];exact a _
  exact this l 0
def fg.cx{m k:Nat}{a:a8}{l:ao}(h:fg m a l):fg m a (fO l k):=⟨by rw[Dz];exact h.1,λc b=>yH.mpr (h.2 c b)⟩
def jM.qC{n k p:Nat}{u d:a8}{v:dc}(b:jM n k u d v)(s:k<n)(t:p<n)(m:k<=p):jM n k u (dR d k p) (nW k p v):=by
 have B:=b.gK.aC;have g:d[p]? =some (d.getD p []):=getD_some ⋯;have f:d[k]? =some (d.getD k []):=getD_some ⋯;refine⟨⟨λi o=>?_,λi j o l e=>?_⟩,b.gK.qC s t,λi r a=>?_,λi r a j l c=>?_,λi r a y=>?_,ID ⋯ ⋯ m b.nB,b.pq.of λj=>(IE m j).mp,λi r a=>?_⟩
 ·unfold nW;split
  ·exact b.eR.lt _ t
  ·split
   ·exact b.eR.lt _ s
   ·exact b.eR.lt _ o
 ·unfold nW at e;split at e<;>split at e<;>(try split at e)<;>(try split at e)<;>have:=b.eR.inj _ _ (by assumption) (by assumption) e<;>lia
 ·rw[lA ⋯ ⋯] at a;split at a
  ·rw[<-Vr a];exact(b.jS p _ g).cx
  ·split at a
   ·rw[<-Vr a];exact b.jS k _ f
   ·exact b.jS i r a
 ·rw[lA ⋯ ⋯] at a;rw[IE m] at c;unfold nW at c;split at a
  ·rw[Vh (by assumption)] at c;rw[<-Vr a,DC];exact b.kJ p _ g j l c
  ·rw[Vg (by assumption)] at c;split at a
   ·rw[Vh (by assumption)] at c;rw[<-Vr a];exact b.kJ k _ f j l c
   ·rw[Vg (by assumption)] at c;exact b.kJ i r a j l c
 ·rw[lA ⋯ ⋯] at a;unfold nW;split at a
  ·rw[Vh (by assumption), <-Vr a];exact λq=>b.own p _ g m (DC.mp q)
  ·rw[Vg (by assumption)];split at a
   ·rw[Vh (by assumption), <-Vr a];exact b.own k _ f (Vm _)
   ·rw[Vg (by assumption)];exact b.own i r a y
 ·rw[lA ⋯ ⋯] at a;split at a
  ·rw[<-Vr a,N5];rcases b.prim p _ g with h|⟨z,A,w,x⟩
   ·exact .inl h
   ·exact .inr ⟨z,A,w,λj=>by rw[DA];exact x j⟩
  ·split at a
   ·rw[<-Vr a];exact b.prim k _ f
   ·exact b.prim i r a
def jM.clear{n k:Nat}{Q l:a8}{u:dc}(c:jM n k Q l u)(z:k<n)(N:0<(l.getD k []).getD k 0):jM n (k+1) Q (jR l k) u:=by
 have aa:=c.gK.aC;have m:l[k]? =some (l.getD k []):=getD_some ⋯;have Y:=BU c.gK z N c.nB;generalize V:l.getD k []=g at N m;have J:∀(i:Nat)(r:ao),l[i]? =some r->r.length=g.length:=λi r h=>by rw[c.gK.row r (Vf h),c.gK.row _ (Vf m)]
 have K:∀j,mW u (k+1) j↔mW u k j\/j=u k:=λj=>by
  constructor
  ·rintro⟨o,I,e⟩;by_cases q:o=k
   ·subst q;exact .inr e.symm
   ·exact .inl ⟨o,⋯,e⟩
  ·rintro(⟨o,I,e⟩|e)
   ·exact⟨o,⋯,e⟩
   ·exact⟨k,⋯,e.symm⟩
 have A:∀(i:Nat)(r:ao),(jR l k)[i]? =some r->∃d,l[i]? =some d/\((r=d/\(i=k\/d.getD k 0=0))\/(i≠k/\r=gR d g k)):=by
  intro i r h;rw[rG] at h;cases P:l[i]? with
  |none=>rw[P] at h;cases h
  |some d=>
   rw[P] at h;refine⟨d,rfl,?_⟩;rw[<-Vr h];unfold hX;dsimp only;split
   ·rename_i G;rw[V];exact .inr ⟨G.1,rfl⟩
   ·rename_i G;refine .inl ⟨rfl,?_⟩;by_cases q:i=k
    ·exact .inl q
    ·exact .inr (Xx λw=>G ⟨q,w⟩)
 have kept:∀(i:Nat)(d:ao),l[i]? =some d->i≠k->∀j,d.getD j 0≠0->g.getD j 0=0->(gR d g k).getD j 0≠0:=by
  intro i d f H j R S T;obtain⟨v,M,_,e⟩:=pS (k:=k) (J i d f);have:=e j;rw[T,S] at this;have F:g.getD k 0*d.getD j 0=0:=by simpa using this.symm
  rcases Xb.mp F with q|q
  ·lia
  ·exact R q
 refine⟨c.eR,c.gK.part z,λi r h=>?_,λi r h j t C=>?_,λi r h H=>?_,Y,?_,λi r h=>?_⟩
 ·obtain⟨d,f,⟨rfl,_⟩|⟨H,rfl⟩⟩:=A i r h
  ·exact c.jS i r f
  ·refine⟨BV (c.gK.row _ (Vf f)) (c.gK.row _ (Vf m)),λE D=>?_⟩;obtain⟨v,M,e,_⟩:=pS (k:=k) (J i d f);have e:=e E;rw[(c.jS i d f).2 E D,(c.jS k g m).2 E D] at e;have W:(v:Rat)≠0:=by
    have:v≠0:=by lia
    simpa using this
   generalize (v:Rat)=a at e W;generalize bR (gR d g k) E=b at e;grind
 ·rw[K] at C;obtain⟨d,f,⟨rfl,_⟩|⟨H,rfl⟩⟩:=A i r h
  ·exact c.kJ i r f j t λq=>C (q.elim (λa=>.inl (.inl a)) .inr)
  ·obtain⟨v,M,_,e⟩:=pS (k:=k) (J i d f);have:=e (n+j);rw[c.kJ i d f j t λq=>C (q.elim (λa=>.inl (.inl a)) .inr),c.kJ k g m j t λq=>C (.inl q)] at this;have F:v*(gR d g k).getD (n+j) 0=0:=by simpa using this
   rcases Xb.mp F with q|q
   ·lia
   ·exact q
 ·have s:i<n:=by have:=(Vj.mp h).1;rw[show(jR l k).length=n from (c.gK.part z).aC] at this;exact this
  obtain⟨d,f,⟨rfl,_⟩|⟨B,rfl⟩⟩:=A i r h
  ·exact c.own i r f ⋯
  ·refine kept i d f B _ (c.own i d f ⋯) (c.kJ k g m _ (c.eR.lt i s) ?_);rintro(⟨o,I,e⟩|e)
   ·have:=c.eR.inj o i ⋯ s e;lia
   ·have:=c.eR.inj i k s z e;lia
 ·exact(c.pq.step (p:=u k) (c.jS k g m) (c.kJ k g m) (c.own k g m (Vm _)) (λj t=>(c.nB k g m j t).2 ⋯) ⋯).of λj=>(K j).mp
 ·have s:i<n:=by have:=(Vj.mp h).1;rw[show(jR l k).length=n from (c.gK.part z).aC] at this;exact this
  obtain⟨d,f,⟨rfl,_⟩|⟨B,rfl⟩⟩:=A i r h
  ·exact c.prim i r f
  ·refine .inl ?_;have O:∃j,(gR d g k).getD j 0≠0:=by
    by_cases q:i<k
    ·refine⟨i,kept i d f B i ?_ ((c.nB k g m i q).2 ⋯)⟩;have:=(c.nB i d f i q).1 rfl
     lia
    ·refine⟨n+u i,kept i d f B _ (c.own i d f ⋯) (c.kJ k g m _ (c.eR.lt i s) ?_)⟩;rintro(⟨o,I,e⟩|e)
     ·have:=c.eR.inj o i ⋯ s e;lia
     ·have:=c.eR.inj i k s z e;lia
   unfold gR at O ⊢;apply Sx;intro L;obtain⟨j,t⟩:=O;apply t;have D:=Nu L;unfold iY;rw[Vh L];by_cases X:j<(List.zipWith (λx y=>g.getD k 0*x-d.getD k 0*y) d g).length
   ·exact D _ (eD X)
   ·rw[Vd,Wn ⋯];rfl
theorem Ir{n:Nat}{c:a8}(f:m9 n c):∀{k:Nat}{a:a8},k<=n->fS c k=some a->∃i,jM n k c a i
 |0,a,_,h=>by have h':c=a:=Vr h;rw[<-h'];exact⟨_,jM.start f⟩
 |k+1,a,r,h=>by
  unfold fS at h;cases d:fS c k with
  |none=>rw[d] at h;cases h
  |some b=>
   rw[d] at h;obtain⟨i,g⟩:=Ir f ⋯ d;have s:=g.gK.aC;have h:elim b k=some a:=h;unfold elim at h;cases e:kF b k with
   |none=>rw[e] at h;cases h
   |some p=>
    rw[e] at h;obtain⟨j,q,o⟩:=vO e;have l:(dR b k p).getD k []=fO (b.getD p []) k:=by rw[Vd,lA ⋯ q,Vh rfl];rfl
    have m:0<((dR b k p).getD k []).getD k 0:=by rw[l];exact DD o
    have h':jR (dR b k p) k=a:=Vr h;rw[<-h'];exact⟨_,(g.qC ⋯ ⋯ j).clear ⋯ m⟩
structure pI(n:Nat)(rows:a8)(o:Nat->ao)(M:dc):Prop where
 jS:∀i,i<n->fg (n+n) rows (o i)
 own:∀i,i<n->(o i).getD (n+i) 0≠0
 sI:∀i j,i<n->j<n->j≠i->(o i).getD (n+j) 0=0
 le:∀i j,i<n->((o i).getD j 0).natAbs<=M i
 pos:∀i,0<M i
theorem AG{f:Nat->Int}:∀{n:Nat},(∀j,j<n->f j=0)->eI f n=0
 |0,_=>rfl
 |n+1,h=>by show eI f n+f n=0;rw[AG λj a=>h j ⋯,h n ⋯];rfl
theorem Iz{f:Nat->Int}{a:Nat}:∀{n:Nat},a<n->(∀j,j<n->j≠a->f j=0)->eI f n=f a
 |0,h,_=>by lia
 |n+1,h,b=>by
  show eI f n+f n=f a;by_cases e:a=n
  ·subst e;rw[AG λj c=>b j ⋯ ⋯];lia
  ·rw[Iz ⋯ λj c d=>b j ⋯ d,b n ⋯ λq=>e q.symm];lia
def HV{n q:Nat}{r:a8}{o:Nat->ao}{M:dc}(f:pI n r o M)(d p:dc)(g:∀a,a<q+1->d a<n)(h:∀s a,s<q+1->a<q+1->d s=d a->s=a):
  ∃v,fg (n+n) r v/\(∀j,j<n->(¬ ∃a,a<q+1/\d a=j)->v.getD (n+j) 0=0)/\(∀a,a<q->v.getD (p a) 0=0)/\(∃j,v.getD j 0≠0)/\
   ∀j,(v.getD j 0).natAbs<=(q+1)*((2*(q+1))^q*cI (λa=>M (d a)) (q+1)):=by
 obtain⟨c,⟨m,l,w⟩,t,u⟩:=SA q (λa s=>(o (d a)).getD (p s) 0) (λa=>M (d a)) (λa=>f.pos _) (λa s b _=>f.le _ _ (g a b));have y:∀i,i<q+1->((λa=>o (d a)) i).length=n+n:=λi h=>(f.jS _ (g i h)).1;have k:∀j,(kj (n+n) (λa=>o (d a)) c (q+1)).getD j 0=eI (λi=>c i*(o (d i)).getD j 0) (q+1):=λj=>(BX j (q+1) y).2;refine⟨kj (n+n) (λa=>o (d a)) c (q+1),BY _ λi h=>f.jS _ (g i h),λj x A=>?_,λa b=>?_,⟨n+d m,?_⟩,λj=>?_⟩
 ·rw[k];exact AG λa b=>by rw[f.sI _ _ (g a b) x λe=>A ⟨a,b,e.symm⟩];simp
 ·rw[k];exact t a b
 ·rw[k,Iz l λa b z=>?_]
  ·intro q;rcases Xb.mp q with q|q
   ·exact w q
   ·exact f.own _ (g m l) q
  ·rw[f.sI _ _ (g a b) (g m l) λe=>z (h _ _ b l e.symm)];simp
 ·rw[k];refine AF λa b=>?_;rw[WJ];exact Vy (Xo _ (f.le _ _ (g a b))) (u a b)
def Ho{n k q:Nat}{d:a8}{P:Nat->Prop}(e:kQ n d P k){r v:ao}(a:fg (n+n) d r)(b:fg (n+n) d v)
  (f:∀j,j<n->¬P j->r.getD q 0*v.getD (n+j) 0=v.getD q 0*r.getD (n+j) 0)(g:∀j,j<k->r.getD q 0*v.getD j 0=v.getD q 0*r.getD j 0):∀j,r.getD q 0*v.getD j 0=v.getD q 0*r.getD j 0:=by
 intro j;have:=e _ (fg.yL (r.getD q 0) (v.getD q 0) b a) (λj c h=>by rw[mh (by rw[b.1,a.1]),f j c h];lia) (λj c=>by rw[mh (by rw[b.1,a.1]),g j c];lia) j;rw[mh (by rw[b.1,a.1])] at this
 lia
def SR{n k:Nat}{t u:a8}{d:dc}{o:Nat->ao}{M:dc}(a:jM n k t u d)(x:pI n t o M){i:Nat}{r:ao}(g:u[i]? =some r)(G:k<=i)(B:de r=1):
  ∀j,(r.getD j 0).natAbs<=(k+1)*((2*(k+1))^k*cI (λc=>M (if c<k then d c else d i)) (k+1)):=by
 have y:i<n:=by have:=(Vj.mp g).1;have:=a.gK.aC;lia
 obtain⟨v,p,D,h,⟨E,z⟩,A⟩:=HV (q:=k) x (λc=>if c<k then d c else d i) (λc=>c) (λc m=>by
  split
  ·exact a.eR.lt _ ⋯
  ·exact a.eR.lt _ y) (λs c H m e=>by
  split at e<;>split at e
  ·exact a.eR.inj _ _ ⋯ ⋯ e
  ·have:=a.eR.inj _ _ ⋯ ⋯ e;lia
  ·have:=a.eR.inj _ _ ⋯ ⋯ e;lia
  ·lia)
 have l:∀j,j<n->¬(mW d k j\/j=d i)->v.getD (n+j) 0=0:=λj b f=>D j b λ⟨c,m,e⟩=>f (by
  split at e
  ·exact .inl ⟨c,by assumption,e⟩
  ·exact .inr e.symm)
 have C:v.getD (n+d i) 0≠0:=λq=>z (a.pq v p (λj b f=>by
  by_cases e:j=d i
  ·rw[e];exact q
  ·exact l j b λw=>w.elim f e) (λj b=>h j b) E)
 have F:=Ho (q:=n+d i) a.pq (a.jS i r g) p (λj b f=>by
  by_cases e:j=d i
  ·rw[e,Xu]
  ·rw[l j b λw=>w.elim f e,a.kJ i r g j b λw=>w.elim f e];simp) (λj b=>by rw[h j b,(a.nB i r g j b).2 ⋯];simp)
 exact λj=>Vy (Fe B C F j) (A j)
def SS{n k:Nat}{t u:a8}{f:dc}{o:Nat->ao}{M:dc}(b:jM n (k+1) t u f)(x:pI n t o M)(H:k<n){i:Nat}{r:ao}(g:u[i]? =some r)(z:i<k+1)(B:de r=1):
  ∀j,(r.getD j 0).natAbs<=(k+1)*((2*(k+1))^k*cI (λd=>M (f d)) (k+1)):=by
 obtain⟨v,p,m,h,⟨F,y⟩,A⟩:=HV (q:=k) x f (λd=>if d<i then d else d+1) (λd E=>b.eR.lt _ ⋯) (λs d J E e=>b.eR.inj _ _ ⋯ ⋯ e);have l:∀j,j<k+1->j≠i->v.getD j 0=0:=λj a I=>by
  by_cases q:j<i
  ·have:=h j ⋯;rwa[Vh q] at this
  ·have:=h (j-1) ⋯;rwa[Vg ⋯,show j-1+1=j by lia] at this
 have D:∀j,j<n->¬mW f (k+1) j->r.getD (n+j) 0=0:=λj a c=>b.kJ i r g j a λw=>w.elim c λe=>c ⟨i,z,e.symm⟩;have C:v.getD i 0≠0:=λq=>y (b.pq v p (λj a c=>m j a c) (λj a=>by
  by_cases e:j=i
  ·rw[e];exact q
  ·exact l j a e) F)
 have G:=Ho (q:=i) b.pq (b.jS i r g) p (λj a c=>by rw[m j a c,D j a c];simp) (λj a=>by
  by_cases e:j=i
  ·rw[e,Xu]
  ·rw[l j a e,(b.nB i r g j a).2 (λq=>e q.symm)];simp)
 exact λj=>Vy (Fe B C G j) (A j)
def jy(M:dc)(i:Nat):Nat->Nat:=λa=>if a=i then 1 else M a
theorem vR:∀{n:Nat}{M N:dc},(∀a,a<n->M a=N a)->cI M n=cI N n
 |0,_,_,_=>rfl
 |n+1,M,N,h=>by show M 0*cI _ n=N 0*cI _ n;rw[h 0 ⋯,vR λa b=>h (a+1) ⋯]
theorem Fg:∀{n i:Nat}{M:dc},i<n->cI M n=M i*cI (jy M i) n
 |0,_,_,h=>by lia
 |n+1,0,M,_=>by show M 0*cI _ n=M 0*(1*cI _ n);rw[Nat.one_mul,vR (N:=λa=>jy M 0 (a+1)) λa _=>by unfold jy;rw[Vg ⋯]]
 |n+1,i+1,M,h=>by
  show M 0*cI _ n=M (i+1)*(jy M (i+1) 0*cI _ n);rw[Fg (n:=n) (i:=i) ⋯,vR (M:=λa=>jy M (i+1) (a+1)) (N:=jy (λa=>M (a+1)) i) λa _=>by unfold jy;simp];have:jy M (i+1) 0=M 0:=by unfold jy;rw[Vg ⋯]
  rw[this,Nat.mul_left_comm]
def Qh{M:dc}{i:Nat}(h:∀a,0<M a)(a:Nat):0<jy M i a:=by
 unfold jy;split
 ·lia
 ·exact h a
theorem zy{n:Nat}:∀(s:Nat)(M:dc)(d:dc),(∀c,0<M c)->(∀c,c<s->d c<n)->(∀a b,a<s->b<s->d a=d b->a=b)->cI (λc=>M (d c)) s<=cI M n
 |0,M,_,h,_,_=>zx n M h
 |s+1,M,d,h,f,g=>by
  show M (d 0)*cI (λc=>M (d (c+1))) s<=_;rw[Fg (f 0 ⋯)];refine Xo _ ?_;rw[vR (N:=λc=>jy M (d 0) (d (c+1))) λc i=>by
   unfold jy;rw[Vg];intro e;have:=g _ _ ⋯ ⋯ e
   lia]
  exact zy s (jy M (d 0)) (λc=>d (c+1)) (Qh h) (λc i=>f _ ⋯) (λa b j k e=>by have:=g _ _ ⋯ ⋯ e;lia)
def ym(n:Nat)(M:dc):Nat:=n*((2*n)^n*cI M n)
def Dd{n k p:Nat}{M:dc}(b:k<n)(a:p<=cI M n):(k+1)*((2*(k+1))^k*p)<=ym n M:=by unfold ym;refine Wt ⋯ (Wt ?_ a);exact Vy (Nat.pow_le_pow_left ⋯ k) (VW ⋯ ⋯)
def SU{n k:Nat}{m q:a8}{c:dc}{o:Nat->ao}{M:dc}(a:jM n k m q c)(d:pI n m o M)(w:k<=n){i:Nat}{r:ao}(f:q[i]? =some r):
  (∀j,(r.getD j 0).natAbs<=ym n M)\/A9 m r:=by
 have t:i<n:=by have:=(Vj.mp f).1;have:=a.gK.aC;lia
 rcases a.prim i r f with p|h
 ·refine .inl λj=>?_;by_cases u:k<=i
  ·refine Vy (SR a d f u p j) (Dd ⋯ (zy (k+1) M (λb=>if b<k then c b else c i) d.pos (λb g=>?_) (λs b v g e=>?_)))
   ·show(if b<k then c b else c i)<n;split
    ·exact a.eR.lt _ ⋯
    ·exact a.eR.lt _ t
   ·have e:(if s<k then c s else c i)=if b<k then c b else c i:=e
    split at e<;>split at e
    ·exact a.eR.inj _ _ ⋯ ⋯ e
    ·have:=a.eR.inj _ _ ⋯ ⋯ e;lia
    ·have:=a.eR.inj _ _ ⋯ ⋯ e;lia
    ·lia
  ·obtain⟨l,rfl⟩:∃l,k=l+1:=⟨k-1,⋯⟩
   exact Vy (SS a d ⋯ f ⋯ p j) (Dd ⋯ (zy (l+1) M c d.pos (λb g=>a.eR.lt _ ⋯) (λs b v g e=>a.eR.inj _ _ ⋯ ⋯ e)))
 ·exact .inr h
def MP{n:Nat}{laws:cv}{b:aG}(c:kh n laws b):m9 n (eK laws):=by
 have k:=c.aC;refine⟨rP c,λi r a=>?_⟩;rw[rO] at a;cases d:laws[i]? with
 |none=>rw[d] at a;cases a
 |some s=>
  rw[d] at a;obtain⟨g,rfl⟩:=Vj.mp d;have o:=c.qN _ (Vs g);have m:=(sX _ (c.den _ (Vs g))).1;have e:r=kr n i laws[i]:=by rw[<-Vr a,k]
  have h:(cS laws[i] (aR laws[i])).length=n:=by unfold cS;rw[Vn];exact o
  have f:∀j,r.getD (n+j) 0=((List.replicate n (0:Int)).set i (aR laws[i])).getD j 0:=by intro j;rw[e];unfold kr;rw[Vd,Wd ⋯,h,show n+j-n=j by lia,Vd]
  refine⟨?_,λj p l=>?_⟩
  ·rw[f,Vd,Wq (by simp;lia)];exact m
  ·rw[f,Vd,Ww (λq=>l q.symm),Wf];split<;>rfl
def j_(n i:Nat)(a:ao)(d:Int):ao:=a++(List.replicate n (0:Int)).set i d
def TQ{n i:Nat}{laws:cv}{b:aG}(f:kh n laws b)(e:i<laws.length){a:ao}{d:Int}(h:a.map (λ(x:Int)=>(x:Rat))=(laws[i].map fr).map λx=>(d:Rat)*x):
  fg (n+n) (eK laws) (j_ n i a d):=by
 have p:=f.aC;have w:=f.qN _ (Vs e);have o:a.length=n:=by have:=Wk List.length h;simp at this;lia
 refine⟨by unfold j_;simp;lia,λc t=>?_⟩;have g:=t i (kr laws.length i laws[i]) (by rw[rO,Ve e];rfl);rw[Cd ⋯ e (f.den _ (Vs e))] at g;have v:=As (f.den _ (Vs e));unfold j_;rw[uD,o];have j:bR a c=d*cu (laws[i].map fr) c:=by unfold bR;rw[h,uE]
 have l:bR ((List.replicate n (0:Int)).set i d) (λk=>c (n+k))=d*c (n+i):=by
  unfold bR;rw[nk _ _ i (by simp;lia) (λk u r=>?_)]
  ·rw[jo,Vd,Wq (by simp;lia)];rfl
  ·rw[jo,Vd,Ww (λq=>r q.symm),Wf];split<;>simp
 rw[j,l];have m:c (laws.length+i)=c (n+i):=by rw[p]
 rw[m] at g;generalize cu (laws[i].map fr) c=x at*;generalize c (n+i)=y at*;generalize ((aR laws[i]:Int):Rat)=s at*;have:x+y=0:=by grind
 have:(d:Rat)*x+d*y=d*(x+y):=by grind
 rw[this];grind
def SJ{n:Nat}{laws:cv}{b:aG}(g:kh n laws b)(a:Nat->ao)(d:Nat->Int)(M:dc)(t:∀i,i<n->d i≠0)(p:∀i,0<M i)
  (h:∀i (c:i<laws.length),(a i).map (λ(x:Int)=>(x:Rat))=(laws[i].map fr).map λx=>(d i:Rat)*x)(r:∀i j,i<n->((a i).getD j 0).natAbs<=M i)(s:∀i,i<n->(d i).natAbs<=M i):
  pI n (eK laws) (λi=>j_ n i (a i) (d i)) M:=by
 have v:=g.aC;have m:∀i,i<n->(a i).length=n:=λi c=>by have:=Wk List.length (h i ⋯);have w:=g.qN _ (Vs (show i<laws.length by lia));simp at this;lia
 have l:∀i j,i<n->(j_ n i (a i) (d i)).getD (n+j) 0=((List.replicate n (0:Int)).set i (d i)).getD j 0:=λi j c=>by have:=m i c;unfold j_;rw[Vd,Wd ⋯,this,show n+j-n=j by lia,Vd]
 have own:∀i,i<n->(j_ n i (a i) (d i)).getD (n+i) 0=d i:=λi c=>by rw[l i i c,Vd,Wq (by simp;lia)];rfl
 have o:∀i j,i<n->j≠i->(j_ n i (a i) (d i)).getD (n+j) 0=0:=λi j c k=>by rw[l i j c,Vd,Ww (λq=>k q.symm),Wf];split<;>rfl
 refine⟨λi c=>TQ g ⋯ (h i ⋯),λi c=>by rw[own i c];exact t i c,λi j c _ k=>o i j c k,λi j c=>?_,p⟩;by_cases u:j<n
 ·have:(j_ n i (a i) (d i)).getD j 0=(a i).getD j 0:=by
   unfold j_;rw[Vd,WI (by rw[m i c];exact u),Vd]
  show((j_ n i (a i) (d i)).getD j 0).natAbs<=M i;rw[this];exact r i j c
 ·obtain⟨f,rfl⟩:∃f,j=n+f:=⟨j-n,⋯⟩
  show((j_ n i (a i) (d i)).getD (n+f) 0).natAbs<=M i;by_cases e:f=i
  ·rw[e,own i c];exact s i c
  ·rw[o i f c e];simp
def qT(β:Nat)(x:Fr):Prop:=0<x.2/\(x.1.natAbs:Int)<=β*x.2
def Jd{β:Nat}{x:Fr}{s:Int}(h:qT β x)(b:0<s)(d:x.2∣s):((x.1*(s/x.2)).natAbs:Int)<=β*s:=by
 obtain⟨c,a⟩:=d;have g:=h.1;have e:s/x.2=c:=by rw[a];exact WM _ ⋯
 have f:0<c:=by rw[a] at b;exact W_ b ⋯
 rw[e,WJ,Wa,a, <-WE];have:((c.natAbs:Nat):Int)=c:=by lia
 rw[this];exact VT h.2 ⋯
theorem IC{G T:Nat}:∀(r a:ao),(∀x,x∈r->x.natAbs<=G)->(∀x,x∈a->x.natAbs<=T)->(List.zipWith (λx y=>x*y) r a).sum.natAbs<=a.length*(G*T)
 |[],a,_,_=>by simp
 |_::_,[],_,_=>by simp
 |x::r,y::a,d,e=>by
  have g:=IC r a (λc b=>d c (by simp[b])) (λc b=>e c (by simp[b]));have f:(x*y).natAbs<=G*T:=by rw[WJ];exact Wt (d x (by simp)) (e y (by simp))
  rw[List.zipWith_cons_cons,List.sum_cons,Vu,Nat.add_mul];have:=Int.natAbs_add_le (x*y) (List.zipWith (λx y=>x*y) r a).sum
  lia
def Tv{n k β G:Nat}{b:aG}{r:ao}(o:b.length=n)(d:∀x,x∈b->qT β x)(l:∀x,x∈r->x.natAbs<=G)(p:0<r.getD k 0):
  qT (n*(G*β)) (unknown n (cS b (aR b)) (aR b) k r)/\((unknown n (cS b (aR b)) (aR b) k r).1.natAbs:Int)<=(n*(G*β):Nat)*aR b:=by
 obtain⟨c,i⟩:=sX b λx a=>(d x a).1;have m:∀x,x∈cS b (aR b)->x.natAbs<=β*(aR b).natAbs:=by
  intro x a;unfold cS at a;obtain⟨y,g,rfl⟩:=Vz.mp a;have:=Jd (d y g) c (i y g);have e:((aR b).natAbs:Int)=aR b:=by lia
  apply Int.ofNat_le.mp;rw[Wa,e];exact this
 have f:=IC (r.drop n) (cS b (aR b)) (λx a=>l x (List.mem_of_mem_drop a)) m;have q:(cS b (aR b)).length=n:=by unfold cS;rw[Vn];exact o
 rw[q] at f;have e:((aR b).natAbs:Int)=aR b:=by lia
 have h:((unknown n (cS b (aR b)) (aR b) k r).1.natAbs:Int)<=(n*(G*β):Nat)*aR b:=by unfold unknown;dsimp only;have j:=Int.ofNat_le.mpr f;refine Wp j (Int.le_of_eq ?_);rw[<-Nat.mul_assoc G, <-Nat.mul_assoc n,Wa,e]
 refine⟨⟨WK p c,Wp h ?_⟩,h⟩;refine VX ?_ ⋯;show aR b<=r.getD k 0*aR b;have:=VT (show(1:Int)<=r.getD k 0 by lia) (show 0<=aR b by lia)
 lia
def Ry{β:Nat}{x:Fr}{f:Int}(h:qT β x)(b:0<f):qT (β+1) (rounded x f):=by
 have a:=h.1;refine⟨b,?_⟩;unfold rounded;dsimp only;have d:x.1<=β*x.2:=by have:=h.2;lia
 have c: -(β*x.2)<=x.1:=by have:=h.2;lia
 have g:x.1*f/x.2<=β*f:=by
  apply Int.ediv_le_of_le_mul a;have:=VT d (show 0<=f by lia)
  calc x.1*f<=β*x.2*f:=this
   _=β*f*x.2:=by grind
 have i: -(β*f)<=x.1*f/x.2:=by
  apply Int.le_ediv_of_mul_le a;have:=VT c (show 0<=f by lia)
  calc-(β*f)*x.2= -(β*x.2)*f:=by grind
   _<=x.1*f:=this
 have e:((β+1:Nat):Int)*f=β*f+f:=by rw[Int.natCast_add,Int.add_mul];simp
 rw[e];generalize x.1*f/x.2=y at*;generalize (β:Int)*f=j at*;split<;>lia
end Nt
namespace Nt.Mt
open Wh
structure fE(N:Nat)(ps:bh)(ws:c_):Prop where
 G:m8 N ps
 Q:tR ps
 n1:1<=N
 n8:N<=8
 kT:∀p,p∈ps->p.kind=3->(ps.getD p.a.toNat ae).kind=2/\(ps.getD p.b.toNat ae).kind=2
 wl:ws.length=ps.length
 wv:∀k,k<ps.length->dg (ps.getD k ae).kind=true->∃w,ws.getD k none=some w/\fh w
def b8(N:Nat)(ps:bh)(ws:c_):Timed:=⟨bz N ps,AC ws⟩
section
variable{N:Nat}{ps:bh}{ws:c_}(A:fE N ps ws)
include A
theorem wT{a:Fr}(f:0<a.2){k:Nat}(e:k<ps.length)(g:dg (ps.getD k ae).kind=true):
  (b8 N ps ws).value (fr a) k=fr (valueAt ((ws.getD k none).getD mN) a)/\0<(valueAt ((ws.getD k none).getD mN) a).2:=by
 obtain⟨w,b,c⟩:=A.wv k e g;obtain⟨h,i⟩:=TF c f;rw[b];refine⟨?_,i⟩;show _=fr (valueAt w a);rw[h];unfold Timed.value b8 AC;have j:=A.wl;have d:ws[k]? =some (some w):=by rw[Vd,Ve (show k<ws.length by lia)] at b;rw[Ve (show k<ws.length by lia)];exact Wk some b
 simp only[Vq,d,Wi,Option.getD_some]
theorem Rv{rule:Int}{aj:Fr}(f:0<aj.2){states:ao}(d:states.length=(bw ps).length){time:Fr}(i:0<time.2){kept:c7}(K:jH kept):
  dn (gq (ak N ps ws) rule aj states time kept):=by
 rw[v0 A.G d];intro x b;unfold iU at b;rcases VQ.mp b with h|h
 ·rw[V_ h];decide
 ·obtain⟨k,a,h⟩:=V'.mp h;have a:=VB.mp a;have g:=(fF A.G.W a).q0;have c:0<am.2:=by decide
  unfold kq at h;have e:(ak N ps ws).af=ps:=rfl;rw[e] at h;split at h
  ·simp at h
  ·split at h
   ·simp at h;subst h;exact c
   ·split at h
    ·rename_i j;simp only[VH] at h;subst h;exact(wT A i a j).2
    ·split at h
     ·simp only[VH] at h;subst h;exact Ro A.G a f K
     ·split at h
      ·simp only[VH] at h;subst h;exact g
      ·simp only[VH] at h;subst h;exact c
theorem FN{rule:Int}{aj:Fr}{states:ao}(a:states.length=(bw ps).length){time:Fr}{kept:c7}:
  (gq (ak N ps ws) rule aj states time kept).length=bt N ps ps.length:=by
 rw[v0 A.G a];unfold iU;rw[Vw,oE (c:=λi=>cM (ps.getD i ae)) (λi _=>Ci), <-zJ (Vm _)];simp[bt]
theorem si{aj:Fr}(f:0<aj.2){states:ao}:(fm (ak N ps ws) aj states).length=bt N ps ps.length/\∀a,a∈fm (ak N ps ws) aj states->a.length=bt N ps ps.length/\dn a:=by
 obtain⟨c,g⟩:=vk (ws:=ws) A.G.ok aj states;rw[c];refine⟨by simp only[Vw,Vn,Wz];lia,λa e=>?_⟩;rcases VQ.mp e with h|h
 ·obtain⟨v,_,rfl⟩:=Vz.mp h;exact⟨BB _ _,(ur (Cc A.G v _)).2⟩
 ·obtain⟨ts,b,rfl⟩:=Vz.mp h;obtain⟨k,d,b⟩:=V'.mp b;exact⟨BB _ _,(ur (B' A.G (VB.mp d) f ts b)).2⟩
theorem IF{rule:Int}{aj:Fr}(d:0<aj.2){states:ao}(c:states.length=(bw ps).length){time:Fr}(f:0<time.2){kept:c7}(K:jH kept):
  kh (bt N ps ps.length) (fm (ak N ps ws) aj states) (gq (ak N ps ws) rule aj states time kept):=by
 obtain⟨e,b⟩:=si A d (states:=states);exact⟨e,FN A c,λa h=>(b a h).1,λa h=>(b a h).2,Rv A d c f K⟩
theorem EL{states:ao}(d:states.length=(bw ps).length)(b:lC states){k:Nat}(c:k<ps.length)(a:(ps.getD k ae).kind=13):
  (dQ (bw ps) states).contains k=true↔¬states.getD ((ak N ps ws).diodes.idxOf (k:Int)) 0=0:=by
 rw[sF A.G d c a];show _↔¬states.getD ((bw ps).idxOf (k:Int)) 0=0;rcases xI A.G b ((bw ps).idxOf (k:Int)) with h|h<;>rw[h]<;>decide
theorem S4{r:Run}{rule:Int}{aj:Fr}(d:0<aj.2)(c:fr aj=(if r.rule=1 then 2 else 1)/r.h)(i:rule=if r.rule=1 then 1 else 0){states:ao}(b:states.length=(bw ps).length)(e:lC states)
  {time:Fr}(j:0<time.2)(f:fr time=r.t+r.h){kept:c7}(K:jH kept)(g:∀k,k<ps.length->cT (ps.getD k ae).kind=true->keptAt r k=⟨fr (bY kept k).1,fr (bY kept k).2⟩):
  (allStepLaws (bz N ps) (settingAt (b8 N ps ws) (r.t+r.h) (dQ (bw ps) states)) r).map (λl=>l.row (bt N ps ps.length) 0)=gO (fm (ak N ps ws) aj states) (gq (ak N ps ws) rule aj states time kept):=by
 rw[<-IG A.G d b (laws:=λk=>stepLaws (bz N ps) (settingAt (b8 N ps ws) (r.t+r.h) (dQ (bw ps) states)) r k (bJ (ps.getD k ae)))
  (λk h=>MK A.G h aj c λa=>EL A b e h a)
  (λk h=>Rx A.G h K (λa=>sF A.G b h a) (λm=>by rw[<-(wT A j h m).1,f];rfl) (λa=>En A.G h) d c i g A.kT)]
 unfold allStepLaws;rw[sd];simp only[List.flatMap_map];rfl
theorem NA{r:Run}{rule:Int}{aj:Fr}(g:0<aj.2)(n:fr aj=(if r.rule=1 then 2 else 1)/r.h)(u:rule=if r.rule=1 then 1 else 0){states:ao}(b:states.length=(bw ps).length)(e:lC states)
  {time:Fr}(j:0<time.2)(o:fr time=r.t+r.h){kept:c7}(K:jH kept)(p:∀k,k<ps.length->cT (ps.getD k ae).kind=true->keptAt r k=⟨fr (bY kept k).1,fr (bY kept k).2⟩):
  goes (b8 N ps ws) r (dQ (bw ps) states)=(gQ (ak N ps ws) rule aj time kept states).map (λm=>m.aE.map fr)/\
  ∀m,gQ (ak N ps ws) rule aj time kept states=some m->m.states=states/\dn m.aE:=by
 have c:=IF A (rule:=rule) g b j K;have v:=S4 A g n u b e j o K p;have q:(b8 N ps ws).net=bz N ps:=rfl;unfold goes;rw[q,AO A.G.W,v];unfold gQ j7;cases i:solve (eK (fm (ak N ps ws) aj states)) with
 |none=>rw[HX c i];exact⟨rfl,λm a=>by simp at a⟩
 |some s=>
  obtain⟨l,d⟩:=Ax c i;rw[l];simp only[Option.bind_some];rw[Cz A.G b e d (ws:=ws)];by_cases f:kX (ak N ps ws) states (fD s (gq (ak N ps ws) rule aj states time kept))=true
  ·simp only[Vh f];refine⟨rfl,λm a=>?_⟩;simp only[VC] at a;subst a;exact⟨rfl,d⟩
  ·simp only[Vg f];exact⟨rfl,λm a=>by simp at a⟩
theorem Rr{states:ao}(f:states.length=(bw ps).length)(t:lC states){kept:c7}(K:jH kept):
  (match (b8 N ps ws).at0.solved ((b8 N ps ws).at0.rest (dQ (bw ps) states)) 0 with
   |none=>none
   |some x=>if (b8 N ps ws).at0.fits (dQ (bw ps) states) x=true then some (dQ (bw ps) states,x) else none)=(gQ (ak N ps ws) 0 am am kept states).map (λm=>(dQ (bw ps) m.states,m.aE.map fr))/\
  ∀m,gQ (ak N ps ws) 0 am am kept states=some m->m.states=states/\dn m.aE:=by
 have j:0<am.2:=by decide
 have l:=IF A (rule:=0) (aj:=am) j f (time:=am) j K;have g:(b8 N ps ws).at0=cB N ps.length (ko (b8 N ps ws) ps):=Bl;have c:=DF (b8 N ps ws) ps;have B:∀k,k<ps.length->(b8 N ps ws).at0.numAt k=if dg (ps.getD k ae).kind=true then (b8 N ps ws).value 0 k else fr (ps.getD k ae).q:=by
  intro k y;have w:=fF A.G.W y;rw[g];unfold Net.numAt;have C:(cB N ps.length (ko (b8 N ps ws) ps)).elems[k]? =some (ko (b8 N ps ws) ps k):=by simp[cB,y]
  rw[C];simp only[Wi,Option.getD_some];unfold ko;have o:=f7 w (i:=4) (d:=.V) ∅;have p:=f7 w (i:=5) (d:=.I) ∅;by_cases a:dg (ps.getD k ae).kind=true
  ·rw[Vh a,Vh (by rcases wV a with h|h;exact .inl (o.mpr h);exact .inr (p.mpr h))]
  ·rw[Vg a,Vg (by
    rintro(h|h)
    ·exact a (by rw[o.mp h];rfl)
    ·exact a (by rw[p.mp h];rfl))]
   rfl
 have F:(b8 N ps ws).at0.rows ((b8 N ps ws).at0.rest (dQ (bw ps) states)) 0=gO (fm (ak N ps ws) am states) (gq (ak N ps ws) 0 am states am kept):=by
  rw[<-IG A.G j f (laws:=λk=>(bz N ps).lawsOf ((b8 N ps ws).at0.rest (dQ (bw ps) states)) k (bJ (ps.getD k ae)))
   (λk h=>Ck A.G h am (λ_=>iO) λe=>EL A f t h e)
   (λk h=>FO A.G h K (λe=>sF A.G f h e) (λa=>by
     rw[<-(wT A j h a).1,iO];show(b8 N ps ws).at0.numAt k=_;rw[B k h,Vh a])
    (λe=>by show(b8 N ps ws).at0.numAt k=_;rw[B k h,Vg (by rw[e];decide)]) (λ_=>⟨rfl,rfl⟩))]
  unfold Net.rows Net.laws;rw[g,DH c,uZ c, <-qy,AO A.G.W];congr 1;simp only[List.flatMap_map];have J:∀v k,(cB N ps.length (ko (b8 N ps ws) ps)).outOf v k (ko (b8 N ps ws) ps k)=(bz N ps).outOf v k (bJ (ps.getD k ae)):=λv k=>by rw[N' c, <-qy]
  have L:∀s k,(cB N ps.length (ko (b8 N ps ws) ps)).lawsOf s k (ko (b8 N ps ws) ps k)=(bz N ps).lawsOf s k (bJ (ps.getD k ae)):=λs k=>by rw[N_ c, <-qy]
  simp only[J,L];rfl
 unfold Net.solved;have H:(b8 N ps ws).at0.unknowns=bt N ps ps.length:=by rw[g,DH c, <-qy,AO A.G.W]
 have E:∀r x,(b8 N ps ws).at0.fits r x=(bz N ps).fits r x:=λr x=>by rw[g,N9 c, <-qy]
 rw[H,F];unfold gQ j7;cases z:solve (eK (fm (ak N ps ws) am states)) with
 |none=>rw[HX l z];exact⟨rfl,λm b=>by simp at b⟩
 |some s=>
  obtain⟨D,n⟩:=Ax l z;rw[D];simp only[Option.bind_some];rw[E,Cz A.G f t n (ws:=ws)];by_cases u:kX (ak N ps ws) states (fD s (gq (ak N ps ws) 0 am states am kept))=true
  ·simp only[Vh u];refine⟨rfl,λm b=>?_⟩;simp only[VC] at b;subst b;exact⟨rfl,n⟩
  ·simp only[Vg u];exact⟨rfl,λm b=>by simp at b⟩
end
theorem yb{e β f g:Type}{i:e->β}{d:e->Option f}{G:β->Option g}{H:f->g}:∀{l:List e},(∀a,a∈l->G (i a)=(d a).map H)->(l.map i).findSome? G=(l.findSome? d).map H
 |[],_=>rfl
 |a::l,h=>by
  rw[Vv,Xq,Xq,h a (by simp)];cases d a with
  |none=>exact yb λb j=>h b (by simp[j])
  |some c=>rfl
theorem rW{i j:Type}{f:i->Option j}:∀{l:List i}{c:j},l.findSome? f=some c->∃a,a∈l/\f a=some c
 |[],_,h=>by simp at h
 |a::l,c,h=>by
  rw[Xq] at h;cases g:f a with
  |none=>rw[g] at h;obtain⟨b,k,e⟩:=rW h;exact⟨b,by simp[k],e⟩
  |some d=>rw[g] at h;simp only[VC] at h;subst h;exact⟨a,by simp,g⟩
structure xu(ps:bh)(states:ao):Prop where
 aC:states.length=(bw ps).length
 bits:lC states
def uf{ps:bh}{s:ao}(h:s∈cj (bw ps).length):xu ps s:=⟨(rh _ _ h).1,(rh _ _ h).2⟩
structure nh(N:Nat)(ps:bh)(ws:c_)(r:dr)(s:Run):Prop where
 rule:r.rule=0/\s.rule=0\/r.rule=1/\s.rule=1
 w1:0<r.aU.1
 w2:0<r.aU.2
 h:s.h=fr r.aU
 gF:r.gF=2^s.bits
 t:s.t=fr (iE r r.made)
 row:s.row=dQ (bw ps) r.cF.states
 st:xu ps r.cF.states
 x:s.x=r.cF.aE.map fr
 rK:dn r.cF.aE
 mem:r.di=fc (ak N ps ws) r.cF.aE r.gF
 kept:s.kept=heldOf (bz N ps) s.bits s.x
section
variable{N:Nat}{ps:bh}{ws:c_}(A:fE N ps ws)
include A
theorem vh{b:aG}{f:Int}(k:Nat):bY (fc (ak N ps ws) b f) k=if k<ps.length/\cT (ps.getD k ae).kind=true then (Nt.rounded (fU (ak N ps ws) b k) f,Nt.rounded (fK (ak N ps ws) b k) f) else (am,am):=by
 unfold bY fc;show(((List.range ps.length).map _).getD k none).getD _=_;rw[Vd,Vq];by_cases a:k<ps.length
 ·rw[Wm a];simp only[Wi,Option.getD_some,a,true_and];show Option.getD (if cT (ps.getD k ae).kind=true then some _ else none) _=_;by_cases h:cT (ps.getD k ae).kind=true
  ·rw[Vh h,Vh h];rfl
  ·rw[Vg h,Vg h];rfl
 ·rw[Wn (by simpa using a)];simp[a]
theorem Dt{a:aG}(b:dn a){bits:Nat}:jH (fc (ak N ps ws) a (2^bits)):=by
 have c:0<am.2:=by decide
 constructor<;>intro k<;>rw[vh A]<;>split
 ·exact(v9 (wU A.G b k)).2
 ·exact c
 ·exact(v9 (uB A.G b k)).2
 ·exact c
theorem De{a:aG}(b:dn a){bits:Nat}{k:Nat}(c:k<ps.length)(h:cT (ps.getD k ae).kind=true):
  (heldOf (bz N ps) bits (a.map fr)).getD k ⟨0,0⟩=⟨fr (bY (fc (ak N ps ws) a (2^bits)) k).1,fr (bY (fc (ak N ps ws) a (2^bits)) k).2⟩:=by
 rw[vh A,Vh ⟨c,h⟩];have d:(ps.getD k ae).kind≠3:=by rcases se h with q|q<;>rw[q]<;>decide
 obtain⟨e,f⟩:=Fq A.G (ws:=ws) b c d;simp only[(v9 (wU A.G b k)).1,(v9 (uB A.G b k)).1];unfold heldOf;rw[sd,VS,Vd,Vq,Wm c];simp only[Wi,Option.getD_some,Function.comp,e,f]
theorem Qn{r:dr}{s:Run}(R:nh N ps ws r s):0<(fQ r.rule r.aU).2/\fr (fQ r.rule r.aU)=(if s.rule=1 then 2 else 1)/s.h/\r.rule=if s.rule=1 then 1 else 0:=by
 unfold fQ;refine⟨zE (by show(0:Int)<1;decide) R.w1,?_,?_⟩
 ·rw[yd,R.h];congr 1;rcases R.rule with ⟨a,b⟩|⟨a,b⟩<;>rw[a,b]
  ·simp[fr];grind
  ·simp[fr];grind
 ·rcases R.rule with ⟨a,b⟩|⟨a,b⟩<;>rw[a,b]<;>simp
theorem Tg{r:dr}{s:Run}(R:nh N ps ws r s):0<(iE r (r.made+1)).2/\fr (iE r (r.made+1))=s.t+s.h:=by refine⟨R.w2,?_⟩;rw[R.t,R.h];have:=lg R.w2;unfold iE fr;simp only[V1,Rat.intCast_add,Rat.intCast_one];grind
theorem S1{r:dr}{s:Run}(R:nh N ps ws r s):match fG (ak N ps ws) r with
  |none=>stepped (b8 N ps ws) s=none
  |some r'=>∃i,stepped (b8 N ps ws) s=some i/\nh N ps ws r' i:=by
 obtain⟨z,B,C⟩:=Qn A R;obtain⟨D,j⟩:=Tg A R;have g:r.di=fc (ak N ps ws) r.cF.aE (2^s.bits):=by rw[R.mem,R.gF]
 have K:jH r.di:=by rw[g];exact Dt A R.rK
 have v:∀k,k<ps.length->cT (ps.getD k ae).kind=true->keptAt s k=⟨fr (bY r.di k).1,fr (bY r.di k).2⟩:=λk o p=>by unfold keptAt;rw[R.kept,R.x,g];exact De A R.rK o p
 have d:∀a,a∈r.cF.states::cj (bw ps).length->xu ps a:=λa h=>by
  rcases Vo.mp h with rfl|h
  ·exact R.st
  ·exact uf h
 have f:=λa (h:a∈r.cF.states::cj (bw ps).length)=>NA A z B C (d a h).aC (d a h).bits D j K v;have u:((s.row::rowsOf (b8 N ps ws).net.diodes).findSome? λ(a:States)=>(goes (b8 N ps ws) s a).map λx=>(a,x))=
   (fM (ak N ps ws) r.rule (fQ r.rule r.aU) (r.cF.states::cj (bw ps).length) (iE r (r.made+1)) r.di).map λm=>(dQ (bw ps) m.states,m.aE.map fr):=by
  have e:s.row::rowsOf (b8 N ps ws).net.diodes=(r.cF.states::cj (bw ps).length).map (dQ (bw ps)):=by rw[Vv,R.row];congr 1;show rowsOf (bz N ps).diodes=_;rw[xT A.G.W,zR]
  rw[e];unfold fM;refine yb λa c=>?_;obtain⟨l,n⟩:=f a c;rw[l];cases b:gQ (ak N ps ws) r.rule (fQ r.rule r.aU) (iE r (r.made+1)) r.di a with
  |none=>rfl
  |some m=>simp only[Wi];rw[(n m b).1]
 have q:(ak N ps ws).diodes.length=(bw ps).length:=rfl;unfold fG stepped;rw[u,q];cases b:fM (ak N ps ws) r.rule (fQ r.rule r.aU) (r.cF.states::cj (bw ps).length) (iE r (r.made+1)) r.di with
 |none=>rfl
 |some m=>unfold fM at b;obtain⟨a,c,b⟩:=rW b;obtain⟨w,y⟩:=(f a c).2 m b;refine⟨_,rfl,?_⟩;exact⟨R.rule,R.w1,R.w2,R.h,R.gF,by show s.t+s.h=fr (iE r (r.made+1));exact j.symm,rfl,by rw[w];exact d a c,rfl,y,rfl,rfl⟩
theorem Iw:∀(k:Nat){r:dr}{s:Run},nh N ps ws r s->(gB (ak N ps ws) k r).1=(steps (b8 N ps ws) k s).1/\nh N ps ws (gB (ak N ps ws) k r).2 (steps (b8 N ps ws) k s).2
 |0,r,s,R=>⟨rfl,R⟩
 |k+1,r,s,R=>by
  have h:=S1 A R;unfold gB steps;cases a:fG (ak N ps ws) r with
  |none=>rw[a] at h;simp only at h;rw[h];exact⟨rfl,R⟩
  |some r'=>rw[a] at h;obtain⟨f,b,c⟩:=h;rw[b];obtain⟨d,e⟩:=Iw k c;exact⟨by show _+1=_+1;rw[d],e⟩
theorem ve(m k:Nat):bY (List.replicate m (some (am,am))) k=(am,am):=by unfold bY;rw[Vd,Wf];split<;>rfl
theorem JR{rule:Int}{rl:Nat}(j:rule=0/\rl=0\/rule=1/\rl=1){aU:Fr}(o:0<aU.1)(p:0<aU.2)(bits:Nat):match li (ak N ps ws) with
  |none=>begun (b8 N ps ws) rl (fr aU) bits=none
  |some m=>∃s,begun (b8 N ps ws) rl (fr aU) bits=some s/\nh N ps ws ⟨rule,aU,2^bits,0,m,fc (ak N ps ws) m.aE (2^bits)⟩ s:=by
 have f:0<am.2:=by decide
 have K:jH (List.replicate ps.length (some (am,am))):=⟨λk=>by rw[ve A];exact f,λk=>by rw[ve A];exact f⟩
 have d:=λa (h:a∈cj (bw ps).length)=>Rr A (uf h).aC (uf h).bits K;have i:(b8 N ps ws).at0.point=(fM (ak N ps ws) 0 am (cj (bw ps).length) am (List.replicate ps.length (some (am,am)))).map λm=>(dQ (bw ps) m.states,m.aE.map fr):=by
  unfold Net.point;have e:rowsOf (b8 N ps ws).at0.diodes=(cj (bw ps).length).map (dQ (bw ps)):=by have g:(b8 N ps ws).at0=cB N ps.length (ko (b8 N ps ws) ps):=Bl;rw[g,DG (DF (b8 N ps ws) ps), <-qy,xT A.G.W,zR]
  rw[e];unfold fM;exact yb λa c=>(d a c).1
 unfold li begun;rw[i];show match fM (ak N ps ws) 0 am (cj (bw ps).length) am (List.replicate ps.length (some (am,am))) with
  |none=>_
  |some m=>_
 cases b:fM (ak N ps ws) 0 am (cj (bw ps).length) am (List.replicate ps.length (some (am,am))) with
 |none=>rfl
 |some m=>unfold fM at b;obtain⟨a,c,b⟩:=rW b;obtain⟨l,n⟩:=(d a c).2 m b;refine⟨_,rfl,?_⟩;refine⟨j,o,p,rfl,rfl,?_,rfl,by rw[l];exact uf c,rfl,n,rfl,rfl⟩;show(0:Rat)=fr (0*aU.1,aU.2);unfold fr;simp;grind
end
end Nt.Mt
namespace Nt.Mt
open Wh WhC
theorem HQ:∀(m f:Nat)(L:ao),L.length=7*m->m<=f->sevens f L=(List.range m).map λj=>(L.drop (7*j)).take 7
 |0,f,L,h,_=>by have:L=[]:=Xi ⋯;subst this;cases f<;>rfl
 |m+1,0,L,h,b=>by lia
 |m+1,f+1,L,h,b=>by
  have c:L.isEmpty=false:=by cases L with
   |nil=>simp at h
   |cons a l=>rfl
  unfold sevens;rw[c,Vg ∅,HQ m f (L.drop 7) (by rw[V9];lia) ⋯,Wx,Vv,VS];congr 1;refine V5 λj _=>?_;simp only[Function.comp];rw[List.drop_drop];congr 2;lia
def HR{net:ao}(h:net.length%7=1):sevens net.length (net.drop 1)=(List.range (net.length/7)).map (seven net):=by rw[HQ (net.length/7) net.length (net.drop 1) (by rw[V9];omega) (by omega)];refine V5 λj _=>?_;unfold seven;rw[List.drop_drop]
def sZ{net:ao}{j:Nat}(h:net.length%7=1)(a:j<net.length/7):(seven net j).length=7:=by unfold seven;rw[V0,V9];lia
def Sr{l:ao}(h:l.length=7):l=[l.getD 0 0,l.getD 1 0,l.getD 2 0,l.getD 3 0,l.getD 4 0,l.getD 5 0,l.getD 6 0]:=by
 match l,h with
 |[a,b,c,d,e,f,g],_=>rfl
def Qp{l:ao}(h:l.length=7):gW l=sevenOk l:=by
 match l,h with
 |[a,b,c,d,e,f,g],_=>
  unfold gW sevenOk k_ WhC.small cO numOk NUMBER;simp only[WA,Wg,List.drop_succ_cons,Xe,List.take_succ_cons,List.take_zero,WX,List.all_nil,Bool.and_true];rw[WU];simp only[Vt,WY,W1,Wu,Vp,Int.not_lt]
  lia
def Ek(net:ao):ia net=rowOk net:=by
 unfold ia rowOk;by_cases f:net.length%7=1
 ·rw[HR f];have l:net.getD 0 0=net.headD 0:=by cases net<;>rfl
  have i:((List.range (net.length/7)).all λj=>gW (seven net j))=((List.range (net.length/7)).map (seven net)).all sevenOk:=by rw[List.all_map];exact rg λj g=>Qp (sZ f (VB.mp g))
  have k:mr net (net.length/7)=((((List.range (net.length/7)).map (seven net)).filter λx=>x.headD 0==13).length:Nat):=by
   unfold mr;rw[List.filter_map,Vn];congr 2;refine List.filter_congr λj g=>?_;have g:=VB.mp g;simp only[Function.comp];have:(seven net j).headD 0=net.getD (1+7*j) 0:=by unfold seven;rw[List.headD_eq_head?_getD,List.head?_take,Vg ∅,List.head?_drop,Vd]
   rw[this];rfl
  rw[i,k,l];rw[WU];simp only[NODES,DIODES,Vt,WY,W1,Wu,Vp,Int.not_lt,Nat.not_lt,f,not_true,not_false_eq_true,true_and,ne_eq];constructor
  ·rintro⟨⟨h,a⟩,b,c,d⟩;exact⟨Vx (by exact_mod_cast d),h,Vx a,by omega,c⟩
  ·rintro⟨a,b,c,d,e⟩;exact⟨⟨b,Wy c⟩,by omega,e,by exact_mod_cast Wy a⟩
 ·simp[f]
def Qq{net:ao}(h:net.length%7=1):(netIn net)=bz (net.getD 0 0).toNat (bC net):=by
 unfold netIn bz bC;have a:net.getD 0 0=net.headD 0:=by cases net<;>rfl
 rw[HR h,VS,VS,a];congr 1;refine V5 λj b=>?_;simp only[Function.comp];unfold bJ ji;have:=Sr (sZ h (VB.mp b))
 conv=>lhs;rw[this]
def EX(net:ao):(bC net).length=net.length/7:=by unfold bC;simp
def Qr{net:ao}{k:Nat}(a:k<net.length/7):(bC net).getD k ae=ji (seven net k):=by unfold bC;rw[Vd,Vq,Wm a];rfl
structure xi(N:Nat)(ps:bh):Prop where
 W:∀p,p∈ps->gb p
 Q:tR ps
 n1:1<=N
 n8:N<=8
 d3:(bw ps).length<=3
def zo{l:ao}(h:l.length=7)(g:gW l=true):gb (ji l)/\(-1000000<=(ji l).q.1/\(ji l).q.1<=1000000)/\(1<=(ji l).q.2/\(ji l).q.2<=1000000):=by
 match l,h with
 |[a,b,c,d,e,f,i],_=>unfold gW k_ cO at g;simp only[WA,Wg,List.drop_succ_cons,Xe,List.take_succ_cons,List.take_zero,WX,List.all_nil,Bool.and_true,Vt,WY,W1,Wu,Vp,Int.not_lt] at g;refine⟨⟨?_,?_,?_,?_,?_,?_,?_⟩,⟨?_,?_⟩,?_,?_⟩<;>simp only[ji,WA,Wg]<;>lia
def EW{net:ao}(h:ia net=true):net.length%7=1/\((net.getD 0 0).toNat:Int)=net.getD 0 0/\xi (net.getD 0 0).toNat (bC net):=by
 unfold ia at h;simp only[Vt,WY,W1,Wu,Vp,Int.not_lt,Nat.not_lt,ne_eq,Decidable.not_not,VO,VB] at h;obtain⟨⟨d,l,m⟩,n,b,g⟩:=h;have f:∀p,p∈bC net->∃j,j<net.length/7/\p=ji (seven net j):=λp b=>by unfold bC at b;obtain⟨j,a,rfl⟩:=Vz.mp b;exact⟨j,VB.mp a,rfl⟩
 refine⟨d,⋯,⟨λp c=>?_,⟨?_,λp c=>?_,λp c=>?_⟩,⋯,⋯,?_⟩⟩
 ·obtain⟨j,a,rfl⟩:=f p c;exact(zo (sZ d a) (b j a)).1
 ·rw[EX];lia
 ·obtain⟨j,a,rfl⟩:=f p c;exact(zo (sZ d a) (b j a)).2.1
 ·obtain⟨j,a,rfl⟩:=f p c;exact(zo (sZ d a) (b j a)).2.2
 ·unfold bw;rw[Vn,EX];have e:((List.range (net.length/7)).filter λk=>decide (((bC net).getD k ae).kind=13))=(List.range (net.length/7)).filter λi=>decide (net.getD (1+7*i) 0=13):=by
   refine List.filter_congr λj a=>?_;have a:=VB.mp a;rw[Qr a];congr 2;unfold ji seven;simp only;rw[Vd,List.getElem?_take,Vh ∅,List.getElem?_drop,Vd];simp
  rw[e];unfold mr at g
  lia
def yc(l:ao)(a c:Int):c<l.foldl max a↔c<a\/∃x,x∈l/\c<x:=by
 induction l generalizing a with
 |nil=>simp
 |cons y l d=>
  rw[V3,d];constructor
  ·rintro(h|⟨x,b,h⟩)
   ·by_cases q:c<a
    ·exact .inl q
    ·exact .inr ⟨y,by simp,by omega⟩
   ·exact .inr ⟨x,by simp[b],h⟩
  ·rintro(h|⟨x,b,h⟩)
   ·exact .inl (by omega)
   ·rcases Vo.mp b with rfl|b
    ·exact .inl (by omega)
    ·exact .inr ⟨x,b,h⟩
def MI{p:cJ}(w:gb p):(bJ p).nodes=(eP p).map Int.toNat:=by have h:=mH w;clear w;obtain⟨k,a,b,c,d,q⟩:=p;dsimp only at h;refine nz _ h ?_ ?_ ?_ ?_ ?_ ?_ ?_ ?_ ?_ ?_ ?_ ?_ ?_ ?_<;>rfl
def OT{p:cJ}(w:gb p):∀x,x∈eP p->0<=x:=by
 have:=w.a0;have:=w.b0;have:=w.c0;have:=w.d0;intro x a;unfold eP at a
 repeat' split at a
 all_goals simp at a
 ·lia
 ·lia
def CN{x:Fr}(h:0<x.2):0<fr x↔0<x.1:=by have:=lF (x:=x) (y:=am) h ∅;rw[iO] at this;rw[<-this];unfold above am;simp
def ye{x:Fr}(h:0<x.2):fr x=0↔x.1=0:=by
 have a:=lg h;unfold fr;constructor
 ·intro e;have:(x.1:Rat)=0:=by grind
  exact_mod_cast this
 ·intro e;rw[e];simp;grind
def M0{x:Fr}(h:0<x.2):fr x=1↔x.1=x.2:=by
 have a:=lg h;unfold fr;constructor
 ·intro e;have:(x.1:Rat)=x.2:=by grind
  exact_mod_cast this
 ·intro e;rw[e];grind
def OA{p:cJ}(w:gb p):Nt.lO p=mayHave (bJ p).kind (bJ p).q:=by
 have i:=w.q0;have f:=CN i;have g:=ye i;have j:=M0 i;have l:0<=fr p.q↔0<=p.q.1:=by
  constructor
  ·intro h;by_cases e:p.q.1=0
   ·lia
   ·have:fr p.q≠0:=λq=>e (g.mp q);have:=f.mp (by grind);lia
  ·intro h;by_cases e:p.q.1=0
   ·rw[g.mpr e];exact Rat.le_refl
   ·have:=f.mpr ⋯;grind
 have h:=mH w;clear w;rw[oB];obtain⟨k,a,b,c,d,q⟩:=p;dsimp only at h f g j l ⊢;refine nz _ h ?_ ?_ ?_ ?_ ?_ ?_ ?_ ?_ ?_ ?_ ?_ ?_ ?_ ?_
 ·exact Wr.mpr f.symm
 ·exact Wr.mpr f.symm
 ·exact Wr.mpr f.symm
 ·rfl
 ·rfl
 ·rfl
 ·rfl
 ·rfl
 ·rfl
 ·rfl
 ·exact(decide_not (p:=q.1=0)).symm.trans (Wr.mpr (not_congr g.symm))
 ·exact Wr.mpr g.symm
 ·exact congr (Wk or (Wr.mpr g.symm)) (Wr.mpr j.symm)
 ·exact Wr.mpr l.symm
section
variable{N:Nat}{ps:bh}(W:∀p,p∈ps->gb p)
include W
theorem yF{x:Int}(c:0<=x)(b:x<ps.length){i:Int}{d:Kind}(a:(i,d)∈p_):(bz N ps).kindAt x.toNat=some d↔(ps.getD x.toNat ae).kind=i:=by unfold Net.kindAt;rw[pT (show x.toNat<ps.length by lia)];simp only[Wi,VC];exact f7 (fF W ⋯) a
theorem Rk{p:cJ}(w:gb p)(e:p.kind≠3)(f:gG p.kind=false):(bJ p).refs=[]:=by have h':=mH w;clear w;obtain⟨k,a,b,c,d,q⟩:=p;dsimp only at e f h';revert e f;refine nz _ h' ?_ ?_ ?_ ?_ ?_ ?_ ?_ ?_ ?_ ?_ ?_ ?_ ?_ ?_<;>first|exact λ_ _=>rfl|exact λh=>absurd rfl h|exact λ_ h=>absurd h ∅
theorem MT{k:Nat}(X:k<ps.length):jz N ps k=((bz N ps).wrongAt k (bJ (ps.getD k ae)):Nat):=by
 have w:=fF W X;unfold jz Net.wrongAt;generalize B:ps.getD k ae=p at*;have P:((N:Int)<(eP p).foldl max 0)↔((bJ p).nodes.any λv=>decide ((bz N ps).nodes<v))=true:=by
  rw[yc,MI w,List.any_map,List.any_eq_true];constructor
  ·rintro(h|⟨x,l,h⟩)
   ·omega
   ·exact⟨x,l,by simp only[Function.comp,Vp];show N<x.toNat;omega⟩
  ·rintro⟨x,l,h⟩;simp only[Function.comp,Vp] at h;have h:N<x.toNat:=h;exact .inr ⟨x,l,by omega⟩
 by_cases t:(N:Int)<(eP p).foldl max 0
 ·rw[Vh t,Vh (P.mp t)];rfl
 ·rw[Vg t,Vg (λq=>t (P.mpr q)), <-OA w];by_cases u:lO p=false
  ·rw[Vh u,Vh u];rfl
  ·rw[Vg u,Vg u];have O:=f7 w (i:=3) (d:=.M) ∅;have I:∀x:Int,0<=x->(decide (k<=x.toNat)||(bz N ps).kindAt x.toNat !=some .L)= !(fN ps x k):=by
    intro x l;unfold fN;by_cases r:x<(k:Int)
    ·have A:=yF (N:=N) W l (by omega) (i:=2) (d:=.L) ∅;rw[WU];simp only[Bool.or_eq_true,Vp,bne_iff_ne,ne_eq,A,WY,Bool.and_eq_false_iff,Wu];omega
    ·have:decide (k<=x.toNat)=true:=Vx (by omega);rw[this];simp[r]
   by_cases g:p.kind=3
   ·rw[Vh (O.mpr g)];have H:=x8 g;have E:=w.a0;have F:=w.b0;have n:gM ps k=(fN ps p.a k&&(fN ps p.b k&&nr ps k)):=by
     unfold gM;rw[B,g];rfl
    have aa:nr ps k=(!decide (p.a=p.b)&&(ps.take k).all λo=> !(decide (o.kind=3)&&j6 o p)):=by unfold nr;rw[B]
    have S:((bz N ps).elems.take k).any (λy=>decide (y.kind=.M)&&(y.refs==(bJ p).refs||y.refs==(bJ p).refs.reverse))= !((ps.take k).all λo=> !(decide (o.kind=3)&&j6 o p)):=by
     have m:(bz N ps).elems.take k=(ps.take k).map bJ:=by show(ps.map bJ).take k=_;rw[List.map_take]
     rw[m,List.any_map,List.not_all_eq_any_not];have Y:∀o,o∈ps.take k->o∈ps:=λo G=>Xj G;rw[WU,List.any_eq_true,List.any_eq_true];refine exists_congr λo=>and_congr_right λG=>?_;have j:=W o (Y o G);have:=j.a0;have:=j.b0;simp only[Function.comp,Bool.not_not];by_cases s:o.kind=3
     ·rw[x8 s,H];have:(bJ o).kind=.M:=(f7 j ∅).mpr s;unfold j6;have D:∀{x y:Int},0<=x->0<=y->(x.toNat=y.toNat↔x=y):=λl ab=>⟨λh=>by rw[<-Int.toNat_of_nonneg l,h,Int.toNat_of_nonneg ab],λh=>by rw[h]⟩
      simp[this,s,D j.a0 E,D j.a0 F,D j.b0 E,D j.b0 F]
     ·have:¬(bJ o).kind=.M:=λq=>s ((f7 j ∅).mp q);simp[this,s]
    have J:((bJ p).refs.any (λa=>decide (k<=a)||(bz N ps).kindAt a !=some .L)=true\/(bJ p).refs.getD 0 0=(bJ p).refs.getD 1 0\/((bz N ps).elems.take k).any (λy=>decide (y.kind=.M)&&(y.refs==(bJ p).refs||y.refs==(bJ p).refs.reverse))=true)↔gM ps k=false:=by
     rw[S,n,aa,H];simp only[WW,List.any_nil,Bool.or_false,WA,Wg,I p.a E,I p.b F];generalize fN ps p.a k=aj;generalize fN ps p.b k=ak;generalize ((ps.take k).all λo=> !(decide (o.kind=3)&&j6 o p))=al;by_cases e:p.a=p.b
     ·simp[e]
     ·have:¬p.a.toNat=p.b.toNat:=by omega
      cases aj<;>cases ak<;>cases al<;>simp[e,this]
    by_cases f:gM ps k=false
    ·rw[Vh f,Vh (J.mpr f)];rfl
    ·rw[Vg f,Vg (λq=>f (J.mp q))];rw[n] at f;have f:fN ps p.a k=true/\fN ps p.b k=true:=by
      cases af:fN ps p.a k<;>cases ag:fN ps p.b k<;>simp[af,ag] at f ⊢
     have am:p.a<(k:Int):=by have:=f.1;unfold fN at this;simp at this;exact this.1
     have an:p.b<(k:Int):=by have:=f.2;unfold fN at this;simp at this;exact this.1
     have ac:(bz N ps).numAt p.a.toNat=fr (ps.getD p.a.toNat ae).q:=by unfold Net.numAt;rw[pT (by omega)];rfl
     have ad:(bz N ps).numAt p.b.toNat=fr (ps.getD p.b.toNat ae).q:=by unfold Net.numAt;rw[pT (by omega)];rfl
     have ah:=fF W (k:=p.a.toNat) (by omega);have ai:=fF W (k:=p.b.toNat) (by omega);have K:=lF (ft w.q0 w.q0) (ft ah.q0 ai.q0);rw[gH,gH] at K;rw[H];simp only[WA,Wg,ac,ad,oB, <-K];simp only[g,true_and];split<;>rfl
   ·rw[Vg (λq=>g (O.mp q))];have R:∀c:Bool,(if c=false then (3:Int) else if p.kind=3/\above (bI p.q p.q) (bI (ps.getD p.a.toNat ae).q (ps.getD p.b.toNat ae).q)=true then 2 else 0)=if c=false then 3 else 0:=by
     intro c;simp[g]
    rw[R];by_cases z:gG p.kind=true
    ·have n:gM ps k=(decide (p.c<k)&& !decide ((ps.getD p.c.toNat ae).kind=3)):=by
      unfold gM;rw[B,Vh z]
     have T:=w.c0;rw[MJ z,n];simp only[WW,List.any_nil,Bool.or_false];by_cases r:p.c<(k:Int)
     ·have A:=yF (N:=N) W T (by omega) (i:=3) (d:=.M) ∅;have m:decide (k<=p.c.toNat)=false:=VF (by omega);by_cases C:(ps.getD p.c.toNat ae).kind=3
      ·have:=A.mpr C;simp only[m,this,r,C];rfl
      ·have:¬_:=λq=>C (A.mp q);have Q:((bz N ps).kindAt p.c.toNat==some .M)=false:=by simpa using this
       simp only[m,Q,r,C];rfl
     ·have m:decide (k<=p.c.toNat)=true:=Vx (by omega);simp only[m,r];rfl
    ·have V:gG p.kind=false:=by simpa using z
     have n:gM ps k=true:=by unfold gM;rw[B,Vg z,Vg g]
     rw[Rk W w g V,n];rfl
theorem Cu:∀(f k:Nat),k+f=ps.length->(jr N ps f k)=(match ((List.range f).map (k+ ·)).findSome? (λj=>if (bz N ps).wrongAt j (bJ (ps.getD j ae))=0 then none else some (j,(bz N ps).wrongAt j (bJ (ps.getD j ae)))) with
  |none=>[]
  |some x=>[(x.1:Int),(x.2:Int)])
 |0,k,h=>rfl
 |f+1,k,h=>by
  unfold jr;rw[Wx,Vv,Xq,MT W ⋯];simp only[Nat.add_zero];by_cases a:(bz N ps).wrongAt k (bJ (ps.getD k ae))=0
  ·rw[Vg (by rw[a];simp),a];simp only[WF];rw[Cu f (k+1) ⋯,VS];have:(λx=>k+1+x)=((k+ ·)∘Nat.succ):=by funext x;simp only[Function.comp];lia
   rw[this]
  ·rw[Vh (by simpa using a)];simp only[Vg a]
theorem MU:hZ N ps=(match (bz N ps).wrong with
  |none=>[]
  |some x=>[(x.1:Int),(x.2:Int)]):=by
 unfold hZ Net.wrong;have:(List.range ps.length).map (0+ ·)=List.range ps.length:=by simp
 rw[Cu W ps.length 0 ⋯,sd,this,List.findSome?_map];rfl
theorem Cv(h:hZ N ps=[]):∀k,k<ps.length->jz N ps k=0:=by
 have g:∀(f j:Nat),jr N ps f j=[]->∀k,j<=k->k<j+f->jz N ps k=0:=by
  intro f;induction f with
  |zero=>intro j _ k b c;lia
  |succ f d=>
   intro j a k b c;unfold jr at a;split at a
   ·simp at a
   ·rename_i q;by_cases e:k=j
    ·subst e;simpa using q
    ·exact d (j+1) a k ⋯ ⋯
 exact λk i=>g ps.length 0 h k ⋯ ⋯
end
def Eo(a b:Int):cO a b=numOk a b:=rfl
def dW(L:ao)(j:Nat):Fr×Fr:=((L.getD (4*j) 0,L.getD (4*j+1) 0),(L.getD (4*j+2) 0,L.getD (4*j+3) 0))
theorem Fb:∀(m:Nat)(L:ao),L.length=4*m->pointsIn L=if ((List.range m).all λj=>cO (dW L j).1.1 (dW L j).1.2&&cO (dW L j).2.1 (dW L j).2.2)=true then some ((List.range m).map λj=>(fr (dW L j).1,fr (dW L j).2)) else none
 |0,L,h=>by have:L=[]:=Xi ⋯;subst this;rfl
 |m+1,L,h=>by
  match L,h with
  |a::b::c::d::l,h=>
   have o:=Fb m l (by simp at h;lia);unfold pointsIn;have i:dW (a::b::c::d::l) 0=((a,b),(c,d)):=rfl;have g:∀j,dW (a::b::c::d::l) (j+1)=dW l j:=λj=>by unfold dW;rw[show 4*(j+1)=4*j+1+1+1+1 by lia];rfl
   rw[Wx,WX,Vv,List.all_map,VS];simp only[i];have k:((List.range m).all ((λj=>cO (dW (a::b::c::d::l) j).1.1 (dW (a::b::c::d::l) j).1.2&&cO (dW (a::b::c::d::l) j).2.1 (dW (a::b::c::d::l) j).2.2)∘Nat.succ))=((List.range m).all λj=>cO (dW l j).1.1 (dW l j).1.2&&cO (dW l j).2.1 (dW l j).2.2):=
    rg λj _=>by simp only[Function.comp,Nat.succ_eq_add_one,g]
   have n:(List.range m).map ((λj=>(fr (dW (a::b::c::d::l) j).1,fr (dW (a::b::c::d::l) j).2))∘Nat.succ)=(List.range m).map λj=>(fr (dW l j).1,fr (dW l j).2):=
    V5 λj _=>by simp only[Function.comp,Nat.succ_eq_add_one,g]
   rw[k,n,o,Eo,Eo];by_cases e:numOk a b=true
   ·by_cases f:numOk c d=true
    ·rw[Vh ⟨e,f⟩,e,f];simp only[Bool.and_self,Bool.true_and];split<;>rfl
    ·rw[Vg (λq=>f q.2)];simp[f]
   ·rw[Vg (λq=>e q.1)];simp[e]
theorem FP:∀(m:Nat)(f:du),rising ((List.range (m+1)).map f)=(List.range m).all λj=>decide (f j<f (j+1))
 |0,f=>rfl
 |m+1,f=>by
  have b:=FP m (λj=>f (j+1));rw[Wx,Vv,VS];have e:(List.range (m+1)).map (f∘Nat.succ)=f 1::((List.range m).map Nat.succ).map (f∘Nat.succ):=by rw[Wx];rfl
  rw[e];show(decide (f 0<f 1)&&rising (f 1::((List.range m).map Nat.succ).map (f∘Nat.succ)))=_;rw[<-e];have a:(List.range (m+1)).map (f∘Nat.succ)=(List.range (m+1)).map λj=>f (j+1):=rfl;rw[a,b];rw[Wx (n:=m),WX,List.all_map];rfl
def Tw{f:du}{m:Nat}(h:∀j,j<m->f j<f (j+1)):∀j,j<=m->f j<=f m:=by
 intro j a;have c:∀d j,j+d<=m->f j<=f (j+d):=by
  intro d;induction d with
  |zero=>intro j _;exact Rat.le_refl
  |succ d b=>intro j a;have e:=b j ⋯;have g:=h (j+d) ⋯;rw[show j+(d+1)=j+d+1 by lia];grind
 have:=c (m-j) j ⋯;rwa[show j+(m-j)=m by lia] at this
section
variable{row:ao}{at_ m:Nat}
def sB{j:Nat}(a:j<1+2*m):(bS row at_ m).getD j am=(row.getD (at_+1+2*j) 0,row.getD (at_+2+2*j) 0):=by unfold bS;rw[Vd,Vq,Wm a];rfl
def I0{j:Nat}(a:j<m):(cC (bS row at_ m) 1 m).getD j am=(row.getD (at_+3+4*j) 0,row.getD (at_+4+4*j) 0):=by unfold cC;rw[Vd,Vq,Wm a];show(bS row at_ m).getD (1+2*j) am=_;rw[sB ⋯];congr 2<;>lia
def Jj{j:Nat}(a:j<m):(cC (bS row at_ m) 2 m).getD j am=(row.getD (at_+5+4*j) 0,row.getD (at_+6+4*j) 0):=by unfold cC;rw[Vd,Vq,Wm a];show(bS row at_ m).getD (2+2*j) am=_;rw[sB ⋯];congr 2<;>lia
def sD{l:aG}{s:Nat}:(cC l s m).length=m:=by unfold cC;simp
end
def TH(d:ao)(c:Nat):waveIn (d.drop c)=(fV d c).map (λw=>(ly w,d.drop (c+w.length.toNat)))/\∀w,fV d c=some w->fh w/\c+w.length.toNat<=d.length/\0<=w.length:=by
 have av:∀j,(d.drop c)[j]? =d[c+j]? :=λj=>by rw[List.getElem?_drop]
 have aO:(d.drop c).length=d.length-c:=V9 ..;have ac:∀x l,d.drop c=x::l->d.getD c 0=x:=λx l h=>by have:=av 0;rw[h] at this;rw[Vd,show c=c+0 by lia, <-this];rfl
 unfold fV;by_cases T:d.length<=c\/d.getD c 0<1\/8<d.getD c 0
 ·rw[Vh T];refine⟨?_,λw h=>by simp at h⟩;unfold waveIn;split
  ·rename_i A p q r y;have ay:=ac A _ y;have aP:c<d.length:=by
    have:=Wk List.length y;simp only[Vu] at this
    lia
   by_cases L:WhC.small 9 A=true/\numOk p q=true/\4*A.toNat<=r.length
   ·rw[Vh L];have aa:=L.1;unfold WhC.small at aa;simp only[Vt,Vp] at aa;have X:A=0:=by lia
    subst X;rw[show r.take (4*(0:Int).toNat)=[] by simp];simp only[pointsIn];rw[Vg (by rintro⟨h,_⟩;simp[Wave.right] at h)];rfl
   ·rw[Vg L];rfl
  ·rfl
 ·rw[Vg T];have aJ:((d.getD c 0).toNat:Int)=d.getD c 0:=by lia
  generalize aw:(d.getD c 0).toNat=M at*;have aM:c<d.length:=by lia
  have aK:1<=M:=by lia
  have aL:M<=8:=by lia
  by_cases V:d.length<c+(3+4*M)
  ·rw[Vh V];refine⟨?_,λw h=>by simp at h⟩;unfold waveIn;split
   ·rename_i A p q r y;have ay:=ac A _ y;have:=Wk List.length y;simp only[Vu] at this;rw[Vg]
    ·rfl
    ·rintro⟨_,_,h⟩;lia
   ·rfl
  ·rw[Vg V];dsimp only;have y:d.drop c=d.getD c 0::d.getD (c+1) 0::d.getD (c+2) 0::d.drop (c+3):=by
    have R:∀k,k<d.length->d.drop k=d.getD k 0::d.drop (k+1):=λk ad=>by rw[W2 ad,Vd,Ve ad];rfl
    rw[R c ⋯,R (c+1) ⋯,R (c+1+1) ⋯]
   generalize az:d.getD (c+1) 0=p at*;generalize aA:d.getD (c+2) 0=q at*;have ai:∀j,j<M->dW ((d.drop (c+3)).take (4*M)) j=((cC (bS d c M) 1 M).getD j am,(cC (bS d c M) 2 M).getD j am):=by
    intro j n;rw[I0 n,Jj n];have C:∀i,i<4*M->((d.drop (c+3)).take (4*M)).getD i 0=d.getD (c+3+i) 0:=λi u=>by rw[Vd,List.getElem?_take,Vh u,List.getElem?_drop,Vd]
    unfold dW;rw[C _ ⋯,C _ ⋯,C _ ⋯,C _ ⋯];simp only[Prod.mk.injEq];exact⟨⟨trivial,by rw[show c+3+(4*j+1)=c+4+4*j by lia]⟩,by rw[show c+3+(4*j+2)=c+5+4*j by lia],by rw[show c+3+(4*j+3)=c+6+4*j by lia]⟩
   have P:(bS d c M).getD 0 am=(p,q):=by rw[sB ⋯, <-az, <-aA]
   generalize ae:cC (bS d c M) 1 M=g at*;generalize ag:cC (bS d c M) 2 M=o at*;have S:g.length=M:=by rw[<-ae];exact sD
   have al:o.length=M:=by rw[<-ag];exact sD
   have ab:((bS d c M).all λx=>cO x.1 x.2)=true↔numOk p q=true/\((List.range M).all λj=>cO (g.getD j am).1 (g.getD j am).2&&cO (o.getD j am).1 (o.getD j am).2)=true:=by
    rw[VO,VO];have aG:(bS d c M).length=1+2*M:=by unfold bS;simp
    have ak:∀j,j<M->g.getD j am=(bS d c M).getD (1+2*j) am:=λj n=>by rw[<-ae,I0 n,sB ⋯];congr 2<;>lia
    have an:∀j,j<M->o.getD j am=(bS d c M).getD (2+2*j) am:=λj n=>by rw[<-ag,Jj n,sB ⋯];congr 2<;>lia
    have O:∀j,j<1+2*M->(bS d c M).getD j am∈bS d c M:=λj n=>by rw[Vd,Ve ⋯];exact Vs _
    constructor
    ·intro h;refine⟨by have:=h _ (O 0 ⋯);rw[P] at this;exact this,λj n=>?_⟩;have n:=VB.mp n;rw[ak j n,an j n,Vt];exact⟨h _ (O _ ⋯),h _ (O _ ⋯)⟩
    ·rintro⟨t,s⟩ x B;obtain⟨i,u,rfl⟩:=V6 B;have e:(bS d c M)[i]=(bS d c M).getD i am:=by rw[Vd,Ve u];rfl
     rw[e];rw[aG] at u;rcases Nat.eq_zero_or_pos i with rfl|aN
     ·rw[P];exact t
     ·have Y:=λj n=>Bool.and_eq_true_iff.mp (s j (VB.mpr n));rcases Nat.mod_two_eq_zero_or_one i with ev|aR
      ·have:=(Y ((i-2)/2) ⋯).2;rw[an _ ⋯,show 2+2*((i-2)/2)=i by lia] at this;exact this
      ·have:=(Y ((i-1)/2) ⋯).1;rw[ak _ ⋯,show 1+2*((i-1)/2)=i by lia] at this;exact this
   have aC:waveIn (d.drop c)=if numOk p q=true/\((List.range M).all λj=>cO (g.getD j am).1 (g.getD j am).2&&cO (o.getD j am).1 (o.getD j am).2)=true then
     (if (⟨(List.range M).map λj=>(fr (g.getD j am),fr (o.getD j am)),fr (p,q)⟩:Wave).right=true/\0<=p then some (⟨(List.range M).map λj=>(fr (g.getD j am),fr (o.getD j am)),fr (p,q)⟩,d.drop (c+(3+4*M))) else none) else none:=by
    rw[y];unfold waveIn;simp only[aw];have aH:WhC.small 9 (d.getD c 0)=true:=by unfold WhC.small;simp only[Vt,Vp];lia
    have aB:4*M<=(d.drop (c+3)).length:=by rw[V9];lia
    rw[Fb M ((d.drop (c+3)).take (4*M)) (by rw[V0];lia)];have as:((List.range M).all λj=>cO (dW ((d.drop (c+3)).take (4*M)) j).1.1 (dW ((d.drop (c+3)).take (4*M)) j).1.2&&cO (dW ((d.drop (c+3)).take (4*M)) j).2.1 (dW ((d.drop (c+3)).take (4*M)) j).2.2)=((List.range M).all λj=>cO (g.getD j am).1 (g.getD j am).2&&cO (o.getD j am).1 (o.getD j am).2):=
     rg λj n=>by rw[ai j (VB.mp n)]
    have au:(List.range M).map (λj=>(fr (dW ((d.drop (c+3)).take (4*M)) j).1,fr (dW ((d.drop (c+3)).take (4*M)) j).2))=(List.range M).map λj=>(fr (g.getD j am),fr (o.getD j am)):=
     V5 λj n=>by rw[ai j (VB.mp n)]
    rw[as,au,List.drop_drop,show c+3+4*M=c+(3+4*M) by lia];by_cases F:numOk p q=true
    ·rw[Vh ⟨aH,F,aB⟩];by_cases E:((List.range M).all λj=>cO (g.getD j am).1 (g.getD j am).2&&cO (o.getD j am).1 (o.getD j am).2)=true
     ·rw[Vh E,Vh ⟨F,E⟩];rfl
     ·rw[Vg E,Vg (λq=>E q.2)]
    ·rw[Vg (λq=>F q.2.1),Vg (λq=>F q.1)]
   rw[aC,P];by_cases D:((bS d c M).all λx=>cO x.1 x.2)=true
   ·have I:=ab.mp D;rw[Vh I];have J:¬((bS d c M).all λx=>cO x.1 x.2)=false:=by rw[D];decide
    simp only[Vg J];have Q:∀a b,cO a b=true->1<=b:=λa b h=>by unfold cO at h;simp only[Vt,Vp] at h;lia
    have aQ:=Q p q I.1;have n:=λj n=>Bool.and_eq_true_iff.mp ((VO.mp I.2) j (VB.mpr n));have v:dn g:=λx B=>by obtain⟨i,u,rfl⟩:=V6 B;have:=Q _ _ (n i ⋯).1;rw[Vd,Ve u] at this;simp at this;lia
    have ap:dn o:=λx B=>by obtain⟨i,u,rfl⟩:=V6 B;have:=Q _ _ (n i ⋯).2;rw[Vd,Ve u] at this;simp at this;lia
    have aj:jD g=true↔fr (g.getD 0 am)=0/\∀j,j<M-1->fr (g.getD j am)<fr (g.getD (j+1) am):=by
     unfold jD;rw[Vt,Vp,VO,ye (i_ v 0),S];refine and_congr_right λ_=>?_;constructor
     ·intro h j n;exact(lF (i_ v _) (i_ v _)).mp (h j (VB.mpr n))
     ·intro h j n;exact(lF (i_ v _) (i_ v _)).mpr (h j (VB.mp n))
    have G:0<(p,q).2:=by show 0<q;lia
    have aF:jY (p,q) (g.getD (M-1) am)=true↔p=0\/fr (g.getD (M-1) am)<fr (p,q):=by unfold jY;rw[Bool.or_eq_true,Vp,lF G (i_ v _)]
    have right:(⟨(List.range M).map λj=>(fr (g.getD j am),fr (o.getD j am)),fr (p,q)⟩:Wave).right=true↔(fr (g.getD 0 am)=0/\∀j,j<M-1->fr (g.getD j am)<fr (g.getD (j+1) am))/\(p=0\/∀j,j<M->fr (g.getD j am)<fr (p,q)):=by
     unfold Wave.right;have W:M=(M-1)+1:=by lia
     have aq:(((List.range M).map λj=>(fr (g.getD j am),fr (o.getD j am))).head?.map λp=>p.1)=some (fr (g.getD 0 am)):=by rw[W,Wx];rfl
     have ar:((List.range M).map λj=>(fr (g.getD j am),fr (o.getD j am))).map (λp=>p.1)=(List.range ((M-1)+1)).map λj=>fr (g.getD j am):=by rw[VS, <-W];rfl
     simp only[Vt,Bool.or_eq_true,Vp];rw[aq,ar,FP,VO,List.all_map,VO,ye G];simp only[VC,VB,Vp,Function.comp,and_assoc]
    have N:((⟨(List.range M).map λj=>(fr (g.getD j am),fr (o.getD j am)),fr (p,q)⟩:Wave).right=true/\0<=p)↔jD g=true/\jY (p,q) (g.getD (M-1) am)=true:=by
     rw[right,aj,aF];constructor
     ·rintro⟨⟨t,s⟩,aI⟩;refine⟨t,?_⟩;rcases s with s|s
      ·exact .inl s
      ·exact .inr (s _ ⋯)
     ·rintro⟨⟨t,H⟩,s⟩;have af:=Tw (f:=λj=>fr (g.getD j am)) (m:=M-1) H;rcases s with s|s
      ·exact⟨⟨⟨t,H⟩,.inl s⟩,⋯⟩
      ·refine⟨⟨⟨t,H⟩,.inr λj n=>?_⟩,?_⟩
       ·have:=af j ⋯;grind
       ·have X:=af 0 ⋯;have:0<fr (p,q):=by grind
        have:=(CN G).mp this;exact Int.le_of_lt this
    by_cases z:jD g=true/\jY (p,q) (g.getD (M-1) am)=true
    ·rw[Vh (N.mpr z)];have K:¬(jD g=false\/jY (p,q) (g.getD (M-1) am)=false):=by rw[z.1,z.2];decide
     rw[Vg K];have ax:(3+4*d.getD c 0).toNat=3+4*M:=by lia
     refine⟨?_,λw ah=>?_⟩
     ·simp only[Wi,ax,ly];congr 3;apply W6
      ·simp[S,al]
      ·intro i t s;simp at t;have aD:i<g.length:=by lia
       have aE:i<o.length:=by lia
       simp[Vd,Ve aD,Ve aE]
     ·simp only[VC] at ah;subst ah;refine⟨⟨by rw[S,al],by show 1<=g.length;lia,v,ap,(N.mpr z).2,G,λj n=>(aj.mp z.1).2 j (by simp only at n;lia)⟩,?_,?_⟩
      ·show c+(3+4*d.getD c 0).toNat<=_;lia
      ·show 0<=3+4*d.getD c 0;lia
    ·rw[Vg (λq=>z (N.mp q))];have K:jD g=false\/jY (p,q) (g.getD (M-1) am)=false:=by
      by_cases t:jD g=true
      ·by_cases s:jY (p,q) (g.getD (M-1) am)=true
       ·exact absurd ⟨t,s⟩ z
       ·exact .inr (W7 _▸s)
      ·exact .inl (W7 _▸t)
     rw[Vh K];exact⟨rfl,λw h=>by simp at h⟩
   ·rw[Vg (λq=>D (ab.mpr q))];have J:((bS d c M).all λx=>cO x.1 x.2)=false:=by simpa using D
    simp only[Vh J];exact⟨rfl,λw h=>by simp at h⟩
theorem wW(b:ao):∀(ps:bh)(k a:Nat),(∀p,p∈ps->gb p)->a<=b.length->
  wavesIn k (ps.map bJ) (b.drop a)=(if (bN b ps a).length<ps.length\/(a:Int)+fq (bN b ps a)<b.length then .error (k+(bN b ps a).length) else .ok (AC (bN b ps a)))
  /\(bN b ps a).length<=ps.length/\0<=fq (bN b ps a)/\(a:Int)+fq (bN b ps a)<=b.length/\((bN b ps a).length=ps.length->∀j,j<ps.length->dg (ps.getD j ae).kind=true->∃w,(bN b ps a).getD j none=some w/\fh w)
 |[],k,a,_,x=>by
  unfold bN;refine⟨?_,by simp,by simp[fq],by simp[fq];lia,λ_ j l=>by simp at l⟩;show wavesIn k [] (b.drop a)=_;unfold wavesIn;have m:fq []=0:=rfl;rw[m];by_cases h:a<b.length
  ·have:(b.drop a).isEmpty=false:=by
    rw[List.isEmpty_eq_false_iff];intro q;have:=Wk List.length q;rw[V9] at this;simp at this;lia
   rw[this,Vg ∅,Vh (.inr ⋯)];rfl
  ·have:(b.drop a).isEmpty=true:=by rw[List.isEmpty_iff];exact List.drop_eq_nil_of_le ⋯
   rw[this,Vh rfl,Vg (by simp;lia)];rfl
 |p::ps,k,a,s,x=>by
  have w:=s p (by simp);have t:∀q,q∈ps->gb q:=λq y=>s q (by simp[y]);have u:=f7 w (i:=4) (d:=.V) ∅;have v:=f7 w (i:=5) (d:=.I) ∅;rw[Vv];unfold wavesIn bN;by_cases f:dg p.kind=true
  ·rw[Vh f,Vh (by rcases wV f with h|h;exact .inl (u.mpr h);exact .inr (v.mpr h))];obtain⟨F,G⟩:=TH b a;rw[F];cases z:fV b a with
   |none=>simp only[Option.map_none];have m:fq []=0:=rfl;rw[m];refine⟨by rw[Vh (.inl (by simp))];rfl,by simp,⋯,⋯,λh=>by simp at h⟩
   |some e=>
    obtain⟨D,E,H⟩:=G e z;simp only[Wi];obtain⟨o,A,B,C,r⟩:=wW b ps (k+1) (a+e.length.toNat) t E;rw[o];have n:fq (some e::bN b ps (a+e.length.toNat))=e.length+fq (bN b ps (a+e.length.toNat)):=by unfold fq;rw[VZ];simp[ju]
    rw[n];refine⟨?_,by simp;lia,⋯,⋯,λh j l g=>?_⟩
    ·simp only[Vu];by_cases c:(bN b ps (a+e.length.toNat)).length<ps.length\/((a+e.length.toNat:Nat):Int)+fq (bN b ps (a+e.length.toNat))<b.length
     ·rw[Vh c,Vh ⋯];show Except.error _=Except.error _;congr 1;lia
     ·rw[Vg c,Vg ⋯];rfl
    ·cases j with
     |zero=>exact⟨e,rfl,D⟩
     |succ j=>rw[Wg] at g ⊢;exact r (by simpa using h) j (by simpa using l) g
  ·rw[Vg f,Vg (by
    rintro(h|h)
    ·exact f (by rw[u.mp h];rfl)
    ·exact f (by rw[v.mp h];rfl))]
   obtain⟨o,A,B,C,r⟩:=wW b ps (k+1) a t x;rw[o];have n:fq (none::bN b ps a)=fq (bN b ps a):=by unfold fq;rw[VZ];simp[ju]
   rw[n];refine⟨?_,by simp;lia,⋯,⋯,λh j l g=>?_⟩
   ·simp only[Vu];by_cases c:(bN b ps a).length<ps.length\/(a:Int)+fq (bN b ps a)<b.length
    ·rw[Vh c,Vh ⋯];show Except.error _=Except.error _;congr 1;lia
    ·rw[Vg c,Vg ⋯];rfl
   ·cases j with
    |zero=>exact absurd g f
    |succ j=>rw[Wg] at g ⊢;exact r (by simpa using h) j (by simpa using l) g
def Cw{N:Nat}{ps:bh}{k:Nat}(h:jz N ps k=0):¬((N:Int)<(eP (ps.getD k ae)).foldl max 0)/\lO (ps.getD k ae)=true/\gM ps k=true:=by
 unfold jz at h;split at h
 ·lia
 ·split at h
  ·lia
  ·split at h
   ·lia
   ·rename_i a b c;exact⟨a,by simpa using b,by simpa using c⟩
def Ej{N:Nat}{ps:bh}(P:xi N ps)(v:hZ N ps=[]){ws:c_}(z:ws.length=ps.length)(A:∀k,k<ps.length->dg (ps.getD k ae).kind=true->∃w,ws.getD k none=some w/\fh w):fE N ps ws:=by
 have l:=λk f=>Cw (Cv (N:=N) P.W v k f);have m:∀p,p∈ps->∃k,k<ps.length/\ps.getD k ae=p:=λp g=>by obtain⟨k,f,rfl⟩:=V6 g;exact⟨k,f,by rw[Vd,Ve f];rfl⟩
 have s:∀k,k<ps.length->∀x,x∈eP (ps.getD k ae)->0<=x/\x<=N:=λk f x r=>by
  have o:=(l k f).1;rw[yc] at o;refine⟨OT (fF P.W f) x r,?_⟩;by_cases q:(N:Int)<x
  ·exact absurd (.inr ⟨x,r,q⟩) o
  ·lia
 have n:∀p,p∈ps->p.kind=3->(p.a<ps.length/\p.b<ps.length)/\(ps.getD p.a.toNat ae).kind=2/\(ps.getD p.b.toNat ae).kind=2:=λp g j=>by obtain⟨k,f,e⟩:=m p g;have h:=(l k f).2.2;unfold gM at h;rw[e,j] at h;have h:(fN ps p.a k&&(fN ps p.b k&&nr ps k))=true:=h;simp only[Vt,fN,Vp] at h;exact⟨⟨⋯,⋯⟩,h.1.2,h.2.1.2⟩
 refine⟨⟨P.W,⟨λk f j=>?_,λk f t=>?_⟩,λp g j=>(n p g j).1,λp g y=>?_,λp g u=>?_⟩,P.Q,P.n1,P.n8,λp g j=>(n p g j).2,z,A⟩
 ·have i:=s k f;have:(ps.getD k ae).a∈eP (ps.getD k ae)/\(ps.getD k ae).b∈eP (ps.getD k ae):=by
   unfold eP;rw[Vg j];split<;>simp
  exact⟨(i _ this.1).1,(i _ this.1).2,(i _ this.2).1,(i _ this.2).2⟩
 ·have i:=s k f;have:(ps.getD k ae).c∈eP (ps.getD k ae)/\(ps.getD k ae).d∈eP (ps.getD k ae):=by
   unfold eP;rw[t];simp[iQ,gn]
  exact⟨(i _ this.1).1,(i _ this.1).2,(i _ this.2).1,(i _ this.2).2⟩
 ·obtain⟨k,f,e⟩:=m p g;have h:=(l k f).2.2;unfold gM at h;rw[e,Vh y,Vt,Vp] at h
  lia
 ·obtain⟨k,f,e⟩:=m p g;have h:=(l k f).2.1;unfold lO at h;rw[e,u] at h;simpa[gn] using h
inductive eh:bX->State->Prop
 |new:eh ⟨none,none⟩ none
 |net {N:Nat} {ps:List cJ} {ws:List (Option dX)} (A:fE N ps ws):eh ⟨some (ak N ps ws),none⟩ (some ⟨b8 N ps ws,none⟩)
 |run {N:Nat} {ps:List cJ} {ws:List (Option dX)} {r:dr} {q:Run} (A:fE N ps ws) (R:nh N ps ws r q):eh ⟨some (ak N ps ws),some r⟩ (some ⟨b8 N ps ws,some q⟩)
def JQ{s:bX}{f:State}(h:eh s f)(net a:ao):eh (lG s net a).1 (WhC.step f (.begin_ net a)).1/\WhCNeutral.shown (WhC.step f (.begin_ net a)).2=(lG s net a).2:=by
 unfold lG;show eh _ (if rowOk net=false then no f 1 else _).1/\WhCNeutral.shown (if rowOk net=false then no f 1 else _).2=_;rw[Ek];by_cases d:rowOk net=false
 ·rw[Vh d,Vh d];exact⟨h,rfl⟩
 ·rw[Vg d,Vg d];have o:ia net=true:=by rw[Ek];simpa using d
  obtain⟨l,m,P⟩:=EW o;rw[Qq l];have n:net.getD 0 0=((net.getD 0 0).toNat:Int):=m.symm;generalize (net.getD 0 0).toNat=N at*;rw[n];have b:=MU (N:=N) P.W;cases j:(bz N (bC net)).wrong with
  |some x=>rw[j] at b;simp only at b;rw[b,Vh (by simp)];exact⟨h,rfl⟩
  |none=>
   rw[j] at b;simp only at b;rw[b,Vg (by simp)];obtain⟨k,q,r,t,p⟩:=wW a (bC net) 0 0 P.W (by omega);rw[Xe] at k;have e:(bz N (bC net)).elems=(bC net).map bJ:=rfl;simp only[e,k];by_cases c:(bN a (bC net) 0).length<(bC net).length\/fq (bN a (bC net) 0)<(a.length:Nat)
   ·have g:(bN a (bC net) 0).length<(bC net).length\/((0:Nat):Int)+fq (bN a (bC net) 0)<(a.length:Nat):=by omega
    simp only[Vh g,Vh c];refine⟨h,?_⟩;show-((3:Nat):Int)::[((0+(bN a (bC net) 0).length:Nat):Int)]=_;rw[Nat.zero_add];rfl
   ·have g:¬((bN a (bC net) 0).length<(bC net).length\/((0:Nat):Int)+fq (bN a (bC net) 0)<(a.length:Nat)):=by omega
    simp only[Vg g,Vg c];have i:(bN a (bC net) 0).length=(bC net).length:=by omega
    exact⟨.net (Ej P b i (p i)),rfl⟩
def SX{s:bX}{g:State}(h:eh s g){rule a b bits:Int}(u:0<=rule)(b0:0<=bits):eh (j8 s rule a b bits).1 (WhC.step g (.start rule.toNat a b bits.toNat)).1/\WhCNeutral.shown (WhC.step g (.start rule.toNat a b bits.toNat)).2=(j8 s rule a b bits).2:=by
 have n:∀{N:Nat}{ps:bh}{ws:c_}{r:Option dr}{q:Option Run},fE N ps ws->eh ⟨some (ak N ps ws),r⟩ (some ⟨b8 N ps ws,q⟩)->eh (j8 ⟨some (ak N ps ws),r⟩ rule a b bits).1 (WhC.step (some ⟨b8 N ps ws,q⟩) (.start rule.toNat a b bits.toNat)).1/\WhCNeutral.shown (WhC.step (some ⟨b8 N ps ws,q⟩) (.start rule.toNat a b bits.toNat)).2=(j8 ⟨some (ak N ps ws),r⟩ rule a b bits).2:=by
  intro N ps ws r q A k;unfold j8 WhC.step;simp only;have i:(1<rule.toNat\/BITS<bits.toNat\/numOk a b=false\/a<=0)↔(1<rule\/64<bits\/gI a b=false):=by
   have e:gI a b=false↔(numOk a b=false\/a<=0):=by unfold gI numOk NUMBER;simp only[Bool.and_eq_false_iff,Wu];omega
   have f:1<rule.toNat↔1<rule:=by omega
   have o:BITS<bits.toNat↔64<bits:=by unfold BITS;omega
   rw[e,f,o]
  by_cases c:1<rule\/64<bits\/gI a b=false
  ·rw[Vh (i.mpr c),Vh c];exact⟨k,rfl⟩
  ·rw[Vg (λq=>c (i.mp q)),Vg c]
   have l:gI a b=true:=by cases q:gI a b with
    |true=>rfl
    |false=>exact absurd (.inr (.inr q)) c
   unfold gI at l;simp only[Vt,Vp] at l;have d:=JR A (rule:=rule) (rl:=rule.toNat) (by omega) (aU:=(a,b)) (by show 0<a;omega) (by show 0<b;omega) bits.toNat;have p:((a:Rat)/(b:Rat))=fr (a,b):=rfl;rw[p];cases j:li (ak N ps ws) with
   |none=>rw[j] at d;simp only at d;rw[d];exact⟨k,rfl⟩
   |some m=>rw[j] at d;obtain⟨t,e,f⟩:=d;rw[e];exact⟨.run A f,rfl⟩
 cases h with
 |new=>exact⟨.new,rfl⟩
 |net A=>exact n A (.net A)
 |run A R=>exact n A (.run A R)
def S5{s:bX}{a:State}(h:eh s a){n:Int}(e:0<=n):eh (lW s n).1 (WhC.step a (.step n.toNat)).1/\WhCNeutral.shown (WhC.step a (.step n.toNat)).2=(lW s n).2:=by
 cases h with
 |new=>exact⟨.new,rfl⟩
 |net A=>exact⟨.net A,rfl⟩
 | @run N ps ws r q A R=>
  show eh _ (if STEPS<n.toNat then no _ 1 else _).1/\WhCNeutral.shown (if STEPS<n.toNat then no _ 1 else _).2=_;unfold lW;simp only;by_cases c:100<n
  ·rw[Vh c,Vh (by unfold STEPS;lia)];exact⟨.run A R,rfl⟩
  ·rw[Vg c,Vg (by unfold STEPS;lia)];obtain⟨b,d⟩:=Iw A n.toNat R;refine⟨.run A d,?_⟩;show [0,((steps (b8 N ps ws) n.toNat q).1:Int)]=[0,((gB (ak N ps ws) n.toNat r).1:Int)]
   rw[b]
section
variable{N:Nat}{ps:bh}{ws:c_}(A:fE N ps ws)
include A
theorem Jb{x:Fr}(a:0<x.2):WhCNeutral.shown (.told (fraction (fr x)))=wO (some x):=by show 0::fraction (fr x)=_;rw[yQ a];rfl
theorem Ft{e:aG}(f:dn e){b k:Int}(H:0<=b)(F:0<=k):(bz N ps).quantity b.toNat k.toNat (e.map fr)=(quantity (ak N ps ws) e b k).map fr/\∀x,quantity (ak N ps ws) e b k=some x->0<x.2:=by
 unfold quantity Net.quantity;have D:(ak N ps ws).nodes=(N:Int):=rfl;have C:(ak N ps ws).af=ps:=rfl;have E:(bz N ps).nodes=N:=rfl;rw[D,C,E];by_cases n:b=0
 ·subst n;simp only[Int.toNat_zero,WF];by_cases s:k<=N
  ·rw[Vh s,Vh (show k.toNat<=N by lia),AQ F];exact⟨rfl,λx a=>by simp only[VC] at a;subst a;exact sv f k⟩
  ·rw[Vg s,Vg (show ¬k.toNat<=N by lia)];exact⟨rfl,λx a=>by simp at a⟩
 ·rw[Vg n,Vg ⋯];by_cases t:k<(ps.length:Nat)
  ·rw[pT (show k.toNat<ps.length by lia)];have w:=fF A.G.W (k:=k.toNat) ⋯;have u:=f7 w (i:=3) (d:=.M) ∅;by_cases c:(ps.getD k.toNat ae).kind=3
   ·rw[Vh (.inr (.inr c))];simp only[u.mpr c,WF];exact⟨rfl,λx a=>by simp at a⟩
   ·have B:¬(bJ (ps.getD k.toNat ae)).kind=.M:=λq=>c (u.mp q);simp only[B,W5,Jn A.G f (show k.toNat<ps.length by lia) c (ws:=ws),B4 A.G (show k.toNat<ps.length by lia) (ws:=ws)];by_cases y:3<b
    ·have g:¬b.toNat=1:=by lia
     have h:¬b.toNat=2:=by lia
     have m:¬b.toNat=3:=by lia
     simp only[g,h,m,y,true_or,WF,W5];exact⟨rfl,λx a=>by simp at a⟩
    ·have z:¬(3<b\/¬k<(ps.length:Nat)\/(ps.getD k.toNat ae).kind=3):=by rintro(q|q|q);exact y q;exact q t;exact c q
     have v:=wU A.G (ws:=ws) f k.toNat;have r:=uB A.G (ws:=ws) f k.toNat;simp only[z,W5];by_cases o:b=1
     ·have g:b.toNat=1:=by lia
      simp only[g,o,WF];exact⟨rfl,λx a=>by simp only[VC] at a;subst a;exact r⟩
     ·have g:¬b.toNat=1:=by lia
      by_cases p:b=2
      ·have h:b.toNat=2:=by lia
       have j:¬((2:Int)=1):=by decide
       have l:¬((2:Nat)=1):=by decide
       simp only[h,p,j,l,WF,W5];exact⟨rfl,λx a=>by simp only[VC] at a;subst a;exact v⟩
      ·have h:¬b.toNat=2:=by lia
       have m:b.toNat=3:=by lia
       have j:¬((3:Nat)=1):=by decide
       have l:¬((3:Nat)=2):=by decide
       simp only[m,o,p,j,l,WF,W5];refine⟨?_,λx a=>by simp only[VC] at a;subst a;exact ft v r⟩;rw[Wi,gH]
  ·have:(bz N ps).elems[k.toNat]? =none:=by simp[bz];lia
   rw[this,Vh (.inr (.inl t))];exact⟨rfl,λx a=>by simp at a⟩
end
def OZ{s:bX}{b:State}(h:eh s b){a k:Int}(j:0<=a)(f:0<=k):eh s (WhC.step b (.now a.toNat k.toNat)).1/\WhCNeutral.shown (WhC.step b (.now a.toNat k.toNat)).2=qe s a k:=by
 cases h with
 |new=>exact⟨.new,rfl⟩
 |net A=>exact⟨.net A,rfl⟩
 | @run N ps ws r q A R=>
  show eh _ ((if a.toNat=4 then _ else _:State×Answer)).1/\WhCNeutral.shown ((if a.toNat=4 then _ else _:State×Answer)).2=if a=4 then _ else _
  by_cases c:a=4
  ·rw[Vh (show a.toNat=4 by lia),Vh c];refine⟨.run A R,?_⟩;rw[R.t];exact Jb A R.w2
  ·rw[Vg (show ¬a.toNat=4 by lia),Vg c];obtain⟨g,i⟩:=Ft A R.rK (ws:=ws) j f;have e:(b8 N ps ws).net=bz N ps:=rfl;simp only[e,R.x,g];cases d:quantity (ak N ps ws) r.cF.aE a k with
   |none=>exact⟨.run A R,rfl⟩
   |some x=>exact⟨.run A R,Jb A (i x d)⟩
def yG{N:Nat}{ps:bh}(b:∀p,p∈ps->gb p){k:Int}(e:0<=k){i:Int}{d:Kind}(c:(i,d)∈p_):(bz N ps).kindAt k.toNat=some d↔k<(ps.length:Nat)/\(ps.getD k.toNat ae).kind=i:=by
 by_cases a:k<(ps.length:Nat)
 ·rw[yF b e a c];simp only[a,true_and]
 ·have:(bz N ps).kindAt k.toNat=none:=by
   unfold Net.kindAt;have:(bz N ps).elems[k.toNat]? =none:=by simp[bz];omega
   rw[this];rfl
  rw[this];simp[a]
def NJ{s:bX}{g:State}(h:eh s g){k:Int}(m:0<=k):eh s (WhC.step g (.is_ k.toNat)).1/\WhCNeutral.shown (WhC.step g (.is_ k.toNat)).2=pY s k:=by
 cases h with
 |new=>exact⟨.new,rfl⟩
 |net A=>exact⟨.net A,rfl⟩
 | @run N ps ws r q A R=>
  have e:(b8 N ps ws).net=bz N ps:=rfl;show eh _ ((if (b8 N ps ws).net.kindAt k.toNat=some Kind.D then _ else _:State×Answer)).1/\WhCNeutral.shown ((if (b8 N ps ws).net.kindAt k.toNat=some Kind.D then _ else _:State×Answer)).2=if k<(ps.length:Nat)/\(ps.getD k.toNat ae).kind=13 then _ else _
  have j:=yG (N:=N) A.G.W m (i:=13) (d:=.D) ∅;rw[e];by_cases c:k<(ps.length:Nat)/\(ps.getD k.toNat ae).kind=13
  ·rw[Vh (j.mpr c),Vh c];refine⟨.run A R,?_⟩;show [0,if q.row.contains k.toNat=true then (1:Int) else 0]=[0,r.cF.states.getD ((bw ps).idxOf k) 0]
   have l:((k.toNat:Nat):Int)=k:=by lia
   have f:=sF A.G R.st.aC (k:=k.toNat) ⋯ c.2;rw[l] at f;rw[R.row];rcases xI A.G R.st.bits ((bw ps).idxOf k) with a|a
   ·rw[a,Vg (λb=>by rw[f,a] at b;simp at b)]
   ·rw[a,Vh (f.mpr a)]
  ·rw[Vg (λb=>c (j.mp b)),Vg c];exact⟨.run A R,rfl⟩
def NR{s:bX}{f:State}(h:eh s f){k:Int}(l:0<=k):eh s (WhC.step f (.kept k.toNat)).1/\WhCNeutral.shown (WhC.step f (.kept k.toNat)).2=p8 s k:=by
 cases h with
 |new=>exact⟨.new,rfl⟩
 |net A=>exact⟨.net A,rfl⟩
 | @run N ps ws r q A R=>
  have e:(b8 N ps ws).net=bz N ps:=rfl;show eh _ ((if (b8 N ps ws).net.kindAt k.toNat=some Kind.C\/(b8 N ps ws).net.kindAt k.toNat=some Kind.L then _ else _:State×Answer)).1/\WhCNeutral.shown ((if (b8 N ps ws).net.kindAt k.toNat=some Kind.C\/(b8 N ps ws).net.kindAt k.toNat=some Kind.L then _ else _:State×Answer)).2=if k<(ps.length:Nat)/\cT (ps.getD k.toNat ae).kind=true then _ else _
  have m:=yG (N:=N) A.G.W l (i:=1) (d:=.C) ∅;have n:=yG (N:=N) A.G.W l (i:=2) (d:=.L) ∅;have j:((bz N ps).kindAt k.toNat=some .C\/(bz N ps).kindAt k.toNat=some .L)↔(k<(ps.length:Nat)/\cT (ps.getD k.toNat ae).kind=true):=by
   rw[m,n];constructor
   ·rintro(⟨a,b⟩|⟨a,b⟩)<;>exact⟨a,by rw[b];rfl⟩
   ·rintro⟨a,b⟩;rcases se b with b|b
    ·exact .inl ⟨a,b⟩
    ·exact .inr ⟨a,b⟩
  rw[e];by_cases c:k<(ps.length:Nat)/\cT (ps.getD k.toNat ae).kind=true
  ·rw[Vh (j.mpr c),Vh c];refine⟨.run A R,?_⟩;show 0::(fraction (keptAt q k.toNat).v++fraction (keptAt q k.toNat).i)=_;have g:r.di=fc (ak N ps ws) r.cF.aE (2^q.bits):=by rw[R.mem,R.gF]
   have o:keptAt q k.toNat=⟨fr (bY r.di k.toNat).1,fr (bY r.di k.toNat).2⟩:=by unfold keptAt;rw[R.kept,R.x,g];exact De A R.rK ⋯ c.2
   have K:jH r.di:=by rw[g];exact Dt A R.rK
   rw[o];simp only[yQ (K.v k.toNat),yQ (K.i k.toNat)];rfl
  ·rw[Vg (λp=>c (j.mp p)),Vg c];exact⟨.run A R,rfl⟩
def xF{M:a8->Prop}(e:∀n w,(WhCNeutral.long n 120 (-4294967295) 4294967295&&WhCNeutral.long w 300 (-4294967295) 4294967295)=true->M [[1],n,w])(f:∀r p q b,(WhCNeutral.natural r 32&&(decide (-4294967296<p)&&(decide (p<4294967296)&&(decide (-4294967296<q)&&(decide (q<4294967296)&&WhCNeutral.natural b 32)))))=true->M [[2,r,p,q,b]])(g:∀n,WhCNeutral.natural n 32=true->M [[3,n]])
  (i:∀w k,(WhCNeutral.natural w 32&&WhCNeutral.natural k 32)=true->M [[4,w,k]])(j:∀k,WhCNeutral.natural k 32=true->M [[5,k]])(m:∀k,WhCNeutral.natural k 32=true->M [[6,k]]){c:a8}(h:WhCNeutral.asked1 c=true):M c:=by
 have d:false=true->M c:=Bool.noConfusion;rcases c with _|⟨_|⟨(_|_|_|_|_|_|_|a)|a,x⟩,c⟩
 ·exact d h
 ·exact d h
 ·exact d h
 ·rcases x with _|⟨x,l⟩
  ·rcases c with _|⟨n,_|⟨w,_|⟨y,c⟩⟩⟩
   ·exact d h
   ·exact d h
   ·exact e n w h
   ·exact d h
  ·exact d h
 ·rcases x with _|⟨r,_|⟨p,_|⟨q,_|⟨b,_|⟨y,l⟩⟩⟩⟩⟩
  ·exact d h
  ·exact d h
  ·exact d h
  ·exact d h
  ·rcases c with _|⟨n,c⟩
   ·exact f r p q b h
   ·exact d h
  ·exact d h
 ·rcases x with _|⟨r,_|⟨p,x⟩⟩
  ·exact d h
  ·rcases c with _|⟨n,c⟩
   ·exact g r h
   ·exact d h
  ·exact d h
 ·rcases x with _|⟨r,_|⟨p,_|⟨q,x⟩⟩⟩
  ·exact d h
  ·exact d h
  ·rcases c with _|⟨n,c⟩
   ·exact i r p h
   ·exact d h
  ·exact d h
 ·rcases x with _|⟨r,_|⟨p,x⟩⟩
  ·exact d h
  ·rcases c with _|⟨n,c⟩
   ·exact j r h
   ·exact d h
  ·exact d h
 ·rcases x with _|⟨r,_|⟨p,x⟩⟩
  ·exact d h
  ·rcases c with _|⟨n,c⟩
   ·exact m r h
   ·exact d h
  ·exact d h
 ·exact d h
 ·exact d h
def Kq{s:bX}{d:State}(h:eh s d){c:a8}(a:WhCNeutral.asked1 c=true):eh (dw s c).1 (WhCNeutral.step d c).1/\(WhCNeutral.step d c).2=(dw s c).2:=by
 refine xF (M:=λc=>eh (dw s c).1 (WhCNeutral.step d c).1/\(WhCNeutral.step d c).2=(dw s c).2) (λn w _=>JQ h n w) (λr p q b a=>?_) (λn a=>?_) (λw k a=>?_) (λk a=>?_) (λk a=>?_) a
 ·simp only[WhCNeutral.natural,Vt,Vp] at a;exact SX h a.1.1 a.2.2.2.2.2.1
 ·simp only[WhCNeutral.natural,Vt,Vp] at a;exact S5 h a.1
 ·simp only[WhCNeutral.natural,Vt,Vp] at a;exact OZ h a.1.1 a.2.1
 ·simp only[WhCNeutral.natural,Vt,Vp] at a;exact NJ h a.1
 ·simp only[WhCNeutral.natural,Vt,Vp] at a;exact NR h a.1
theorem E':∀(a:List a8){s:bX}{b:State},eh s b->(∀c,c∈a->WhCNeutral.asked1 c=true)->PyFlat.played WhCNeutral.step b a=iA s a
 |[],_,_,_,_=>rfl
 |c::a,s,b,h,d=>by obtain⟨e,f⟩:=Kq h (d c (by simp));show(WhCNeutral.step b c).2::PyFlat.played WhCNeutral.step (WhCNeutral.step b c).1 a=(dw s c).2::iA (dw s c).1 a;rw[f,E' a e λx g=>d x (by simp[g])]
def TR{p:Int}{l:ao}{c:a8}{a:ao}(h:l_ p l c a):PyWrwirc.whole c=c:=by cases h<;>rfl
theorem BM:∀(f:Nat)(l:ao)(a:List a8),PyFlat.calls PyWrwirc.shape f l=some a->a.map PyWrwirc.whole=a
 |f,[],a,h=>by cases f<;>simp[PyFlat.calls] at h<;>subst h<;>rfl
 |0,p::l,a,h=>by simp[PyFlat.calls] at h
 |f+1,p::l,a,h=>by
  have h:(match PyFlat.call PyWrwirc.shape (p::l) with
    |none=>none
    |some (c,b)=>match PyFlat.calls PyWrwirc.shape f b with
     |none=>none
     |some a=>some (c::a))=some a:=h
  cases d:PyFlat.call PyWrwirc.shape (p::l) with
  |none=>rw[d] at h;simp at h
  |some i=>
   obtain⟨c,b⟩:=i;rw[d] at h;simp only at h;cases e:PyFlat.calls PyWrwirc.shape f b with
   |none=>rw[e] at h;simp at h
   |some g=>rw[e] at h;simp only[VC] at h;subst h;rw[Vv,TR (EV d),BM f b g e]
def JE{l:ao}(a:PyWrwirc.answers_asked l=true):∃b,PyFlat.calls PyWrwirc.shape l.length l=some b/\(∀c,c∈b->WhCNeutral.asked1 c=true)/\b.length<=100/\PyWrwirc.answers l=PyFlat.told (iA ⟨none,none⟩ b):=by
 unfold PyWrwirc.answers_asked at a;unfold PyWrwirc.answers;unfold PyWrwirc.calls at a ⊢;cases d:PyFlat.calls PyWrwirc.shape l.length l with
 |none=>rw[d] at a;simp at a
 |some b=>rw[d] at a;have e:=BM _ _ _ d;simp only[e] at a ⊢;simp only[WhCNeutral.asked,Vt,VO,Vp] at a;exact⟨b,rfl,a.2.1,a.2.2.2,by rw[<-E' b eh.new a.2.1];rfl⟩
def MV(n:Int)(ps:bh):(hZ n ps).length<=2:=by
 unfold hZ;have:∀f k,(jr n ps f k).length<=2:=by
  intro f;induction f with
  |zero=>intro k;simp[jr]
  |succ f a=>
   intro k;unfold jr;split
   ·simp
   ·exact a _
 exact this _ _
def JD{s:bX}{c:a8}(d:WhCNeutral.asked1 c=true):(dw s c).2.length<=5:=by
 refine xF (M:=λc=>(dw s c).2.length<=5) (λa e _=>?_) (λr p q b _=>?_) (λn _=>?_) (λw k _=>?_) (λk _=>?_) (λk _=>?_) d
 ·show(lG s a e).2.length<=5;have:=MV (a.getD 0 0) (bC a);unfold lG;split
  ·simp
  ·split
   ·rw[Vu];lia
   ·split<;>simp
 ·show(j8 s r p q b).2.length<=5;unfold j8
  repeat' split
  all_goals simp
 ·show(lW s n).2.length<=5;unfold lW
  repeat' split
  all_goals simp
 ·show(qe s w k).length<=5;unfold qe wO
  repeat' split
  all_goals simp
 ·show(pY s k).length<=5;unfold pY
  repeat' split
  all_goals simp
 ·show(p8 s k).length<=5;unfold p8
  repeat' split
  all_goals simp
theorem Jc:∀(a:List a8)(s:bX),(∀c,c∈a->WhCNeutral.asked1 c=true)->(PyFlat.told (iA s a)).length<=6*a.length
 |[],s,_=>by simp[iA,PyFlat.told]
 |c::a,s,b=>by
  have d:=JD (s:=s) (b c (.head _));have e:=Jc a (dw s c).1 λc h=>b c (.tail _ h);show(PyFlat.told ((dw s c).2::iA (dw s c).1 a)).length<=_;rw[Ja,Vw,Vu,Vu]
  lia
def SD(N:Nat)(ps:bh)(k:Nat):fw (N:Int) (ps.take k)=(bt N ps k:Nat):=by rw[s_];unfold bt;rw[Wj]
def vL{x:Fr}(a: -1000000<=x.1/\x.1<=1000000)(b:1<=x.2/\x.2<=1000000):FB 20 x:=
 ⟨Bt.of (by have:(2:Nat)^20=1048576:=∅;omega),Bt.of (by have:(2:Nat)^20=1048576:=∅;omega)⟩
def OK{N:Nat}{ps:bh}{ws:c_}(A:fE N ps ws)(z:(bw ps).length<=3)(C:∀p,p∈ps->iQ p.kind=true->p.c<=N/\p.d<=N)(B:∀p,p∈ps->gG p.kind=true->(ps.getD p.c.toNat ae).kind≠3):im (ak N ps ws):=by
 have K:=A.n1;have F:=A.n8;have hsz:(ak N ps ws).size=((bt N ps ps.length:Nat):Int):=s_ ps N;have J:=tm (N:=N) (ps:=ps) ps.length;have I:=wE A.G A.Q F;have v:∀k,k<ps.length->(ak N ps ws).aW.getD k 0=((bt N ps k:Nat):Int):=λk a=>qz ps N k a;have y:∀k,k<ps.length->bt N ps k+cM (ps.getD k ae)<=bt N ps ps.length:=λk a=>by
  have h:=wG (N:=N) a;have i:=wF (N:=N) (ps:=ps) (k:=k+1) (j:=ps.length) ⋯ (Vm _)
  lia
 refine⟨A.Q.oC,⟨by show(1:Int)<=(N:Int);lia,by show(N:Int)<=8;lia⟩,⟨by rw[hsz];show(N:Int)<=_;lia,by rw[hsz];lia⟩,wH _ _,λk a m=>?_,λk a t=>?_,λk a=>?_,rfl,?_,λl u=>?_,z,λk a D=>kY.mpr ⟨k,rfl,a,D⟩,λd E=>?_,λp f=>?_⟩
 ·have a:k<ps.length:=a;have m:(ps.getD k ae).kind≠3:=m;have h:=y k a;have:1<=cM (ps.getD k ae):=by unfold cM;rw[Vg m];split<;>lia
  rw[v k a,hsz];have:=tm (N:=N) (ps:=ps) k;exact⟨by show(N:Int)<=_;lia,⋯⟩
 ·have a:k<ps.length:=a;have t:(ps.getD k ae).kind=10:=t;have h:=y k a;have:cM (ps.getD k ae)=2:=by unfold cM;rw[t];rfl
  rw[v k a,hsz];lia
 ·have a:k<ps.length:=a;rw[v k a];exact(SD N ps k).symm
 ·show((List.range ps.length).map (cP ps)).length=ps.length;simp
 ·have u:l∈(List.range ps.length).map (cP ps):=u;obtain⟨k,a,rfl⟩:=Vz.mp u;have a:=VB.mp a;refine⟨yN A.G A.Q k,λx b=>?_⟩;obtain⟨p,f,e⟩:=yO A.G A.Q a b;have s:FB 20 x.2:=by rw[e];exact vL (A.Q.aX p f) (A.Q.ib p f)
  unfold cP at b;split at b
  ·simp at b
  ·rename_i H;rcases Vo.mp b with rfl|b
   ·exact⟨by simp,by show(k:Int)<(ps.length:Nat);lia,s,by show(ps.getD (k:Int).toNat ae).kind=2;rw[VE];simpa using H⟩
   ·obtain⟨o,n,b⟩:=V'.mp b;have g:=A.G.W o n;unfold dN at b;split at b
    ·rename_i q;have h:=A.G.nQ o n q.1;have i:=A.kT o n q.1;have:=g.b0;simp at b;subst b;exact⟨g.b0,h.2,s,i.2⟩
    ·split at b
     ·rename_i q;have h:=A.G.nQ o n q.1;have i:=A.kT o n q.1;simp at b;subst b;exact⟨g.a0,h.1,s,i.1⟩
     ·simp at b
 ·obtain⟨k,rfl,h,i⟩:=kY.mp E;exact⟨⋯,by show(k:Int)<(ps.length:Nat);lia,by show(ps.getD (k:Int).toNat ae).kind=13;rw[VE];exact i⟩
 ·have f:p∈ps:=f;have g:=A.G.W p f;obtain⟨k,a,e⟩:=V6 f;have w:ps.getD k ae=p:=by rw[Vd,Ve a];exact e
  refine⟨⟨⟨g.a0,g.b0,g.c0,g.d0⟩,vL (A.Q.aX p f) (A.Q.ib p f)⟩,g.q0,λm=>?_,λr=>C p f r,λr=>⟨A.G.FI p f r,B p f r⟩⟩;have:=A.G.ok.a0 k a (by rw[w];exact m);rw[w] at this;exact⟨this.2.1,this.2.2.2⟩
def j9{a:Int}{b:Nat}(h:a.natAbs<=2^b)(c:b+1<=67108864):Sz a:=by have:Bt (b+1) a:=Bt.of (Vl h (Nat.pow_lt_pow_right ∅ ⋯));exact this.sz c
section
variable{N:Nat}{ps:bh}{ws:c_}(A:fE N ps ws)
include A
theorem HY{aj:Fr}(D:lD aj){states:ao}{k:Nat}{p:a8}(C:k<=bt N ps ps.length)(h:fS (eK (fm (ak N ps ws) aj states)) k=some p):
  ∀r,r∈p->∀x,x∈r->x.natAbs<=2^5051:=by
 obtain⟨L,g⟩:=si A D.sn.1 (states:=states);have w:kh (bt N ps ps.length) (fm (ak N ps ws) aj states) (List.replicate (bt N ps ps.length) am):=
  ⟨L,by simp,λa q=>(g a q).1,λa q=>(g a q).2,λx f=>by rw[V_ f];decide⟩
 obtain⟨M,F,u,S⟩:=Rz (ws:=ws) A.G A.Q A.n8 D (states:=states);generalize bt N ps ps.length=n at*;generalize fm (ak N ps ws) aj states=laws at*;have t:∀i,i<n->∃a,laws[i]? =some a/\a.length=n/\dn a:=λi c=>by
  have c:i<laws.length:=by lia
  exact⟨laws[i],Ve c,(g _ (Vs c)).1,(g _ (Vs c)).2⟩
 have z:∀{l:ao}{b j:Nat},(∀x,x∈l->x.natAbs<=b)->(l.getD j 0).natAbs<=b:=λ{l b j} q=>by
  rw[Vd];cases T:l[j]? with
  |none=>simp
  |some x=>exact q x (Vf T)
 have H:pI n (eK laws) (λi=>j_ n i (cS (laws.getD i []) (aR (laws.getD i []))) (aR (laws.getD i []))) M:=by
  refine SJ w _ _ M (λi c=>?_) (λi=>(F i).1) (λi c=>?_) (λi j c=>?_) (λi c=>?_)
  ·obtain⟨a,d,o,v⟩:=t i c;have e:laws.getD i []=a:=by rw[Vd,d];rfl
   rw[e];have:=(sY a v).1;lia
  ·have e:laws.getD i []=laws[i]:=by rw[Vd,Ve c];rfl
   rw[e];have B:dn laws[i]:=(g _ (Vs c)).2;unfold cS;rw[VS,VS];refine V5 λx f=>?_;exact Au (B x f) (At _ B x f)
  ·obtain⟨a,d,o,v⟩:=t i c;have e:laws.getD i []=a:=by rw[Vd,d];rfl
   rw[e];exact z (u i a d).2
  ·obtain⟨a,d,o,v⟩:=t i c;have e:laws.getD i []=a:=by rw[Vd,d];rfl
   rw[e];exact(u i a d).1
 obtain⟨W,St⟩:=Ir (MP w) C h;intro r R x f;obtain⟨i,c,rfl⟩:=V6 R;obtain⟨j,P,rfl⟩:=V6 f;have K:p[i][j]=p[i].getD j 0:=by rw[Vd,Ve P];rfl
 rw[K];rcases SU St H C (Ve c) with q|⟨m,V,d,o⟩
 ·exact Vy (q j) S
 ·rw[o j];rw[rO] at d;cases s:laws[m]? with
  |none=>rw[s] at d;simp at d
  |some a=>
   rw[s] at d;simp only[Wi,VC] at d;subst d;obtain⟨I,J⟩:=u m a s;have O:M m<=2^5051:=Vy (F m).2 (VW ∅ ∅);refine Vy (z λy E=>?_) O;unfold kr at E;rcases VQ.mp E with q|q
   ·exact J y q
   ·rcases V7 q with q|q
    ·rw[V_ q];simp
    ·rw[q];exact I
theorem SM{aj:Fr}(a:lD aj){states:ao}:xr (eK (fm (ak N ps ws) aj states)):=by
 intro k g e h r c x d;have b:=(si A a.sn.1 (states:=states)).1;have f:(eK (fm (ak N ps ws) aj states)).length=bt N ps ps.length:=by unfold eK;simp[b]
 exact j9 (HY A a ⋯ h r c x d) ∅
end
def QZ{l:aG}(b:dn l)(j:Nat):cy (l.take j)<=cy l:=by
 have e:cy l=cy (l.take j)*cy (l.drop j):=by rw[<-QY,Xg]
 have c:0<cy (l.take j):=sQ λx a=>b x (Xj a);have d:0<cy (l.drop j):=sQ λx a=>b x (List.mem_of_mem_drop a);rw[e];have:cy (l.take j)*1<=cy (l.take j)*cy (l.drop j):=VX ⋯ ⋯
 lia
def Ca{l:aG}(b:dn l){x:Fr}(a:x∈l):x.2<=cy l:=by
 induction l with
 |nil=>simp at a
 |cons y l e=>
  have c:dn l:=λf d=>b f (by simp[d]);have i:=b y (by simp);have h:=sQ c;show x.2<=y.2*cy l;rcases Vo.mp a with rfl|a
  ·have:x.2*1<=x.2*cy l:=VX ⋯ ⋯
   lia
  ·have g:=e c a;have:1*cy l<=y.2*cy l:=VT ⋯ ⋯
   lia
def nj{a:Int}{b:Nat}(d:0<=a)(h:a<=((2^b:Nat):Int)):a.natAbs<=2^b:=by
 generalize 2^b=c at*
 lia
def HF{l:aG}(a:dn l){b:Nat}(k:cy l<=((2^b:Nat):Int))(c:b+1<=67108864):pH l:=by
 intro j x f;have d:=Vf f;have e:=a x d;refine⟨e,?_⟩;obtain⟨m,n⟩:=sY (l.take j) λh g=>a h (Xj g);have o:=QZ a j;have i:=Ca a d;refine Sz.mul (j9 (b:=b) (nj ⋯ ⋯) c) (j9 (b:=b) (nj ?_ ?_) c)
 ·exact Int.ediv_nonneg ⋯ (by unfold cN;lia)
 ·have:x.2/cN (aR (l.take j)) x.2<=x.2:=Int.ediv_le_self _ ⋯
  lia
section
variable{N:Nat}{ps:bh}{ws:c_}(A:fE N ps ws)
include A
theorem N1{aj:Fr}(j:lD aj){states:ao}{c:aG}(h:c∈fm (ak N ps ws) aj states):cy c<=((2^484:Nat):Int)/\∀x,x∈c->Mg (2^484) x:=by
 have g:∀{β m:Nat}{ts:List bQ},(∀a,a∈ts->Mg β a.2)->d9 β ts<=gj->cy (cz m ts)<=((gj:Nat):Int)/\∀x,x∈cz m ts->Mg gj x:=λ{β m ts} b t=>by
  obtain⟨_,d,f⟩:=BC (m:=m) b;have s:=vT λa q=>(b a q).1;have p:(eT ts).toNat<=d9 β ts:=by
   unfold d9;have:1*(eT ts).toNat<=(ts.length*β+1)*(eT ts).toNat:=W0 _ ⋯
   lia
  have r:ts.length*β<=d9 β ts:=by
   unfold d9;have:(ts.length*β+1)*1<=(ts.length*β+1)*(eT ts).toNat:=Xo _ ⋯
   lia
  exact⟨⋯,λx n=>(f x n).aF ⋯⟩
 rw[(vk A.G.ok aj states).1] at h;show cy c<=((gj:Nat):Int)/\∀x,x∈c->Mg gj x;rcases VQ.mp h with h|h
 ·obtain⟨v,_,rfl⟩:=Vz.mp h;obtain⟨d,f⟩:=ER (ws:=ws) A.G A.Q v (l:=List.range ps.length) (by rw[Wz];exact A.Q.oC);refine g (β:=1) (λa b=>(d a b).1) ?_;unfold d9;rw[vS d];refine Vy ?_ BO;show(_*1+1)*1<=41
  lia
 ·obtain⟨ts,e,rfl⟩:=Vz.mp h;obtain⟨k,i,e⟩:=V'.mp e;obtain⟨d,f,o⟩:=x9 (ws:=ws) A.G A.Q (VB.mp i) j (states:=states);exact g (λa b=>(d ts e a b).1) (o ts e)
theorem MO{aj:Fr}(f:lD aj){states:ao}:AZ (fm (ak N ps ws) aj states):=by
 obtain⟨i,e⟩:=si A f.sn.1 (states:=states);have n:=wE A.G A.Q A.n8;refine⟨⟨⋯,λa g=>?_⟩,bt N ps ps.length,bt N ps ps.length+bt N ps ps.length,?_,⋯,⋯,SM A f⟩
 ·obtain⟨p,d⟩:=e a g;obtain⟨k,l⟩:=N1 A f g;refine⟨⋯,HF d k ∅,λx c=>⟨d x c,?_⟩⟩;have j:=l x c;have m:=Ca d c;have o:=d x c;obtain⟨r,s⟩:=sY a d;refine Sz.mul (j9 (b:=484+484) ?_ ∅) (j9 (b:=484) (nj (Int.ediv_nonneg ⋯ ⋯) ?_) ∅)
  ·have q:(x.1.natAbs:Int)<=((2^484:Nat):Int)*((2^484:Nat):Int):=Wp j.2 (VX ⋯ ⋯);rw[Xc];have:(((2^484*2^484:Nat)):Int)=((2^484:Nat):Int)*((2^484:Nat):Int):=Wa ..;rw[<-this] at q
   exact_mod_cast q
  ·have:aR a/x.2<=aR a:=Int.ediv_le_self _ ⋯
   lia
 ·have h:kh (bt N ps ps.length) (fm (ak N ps ws) aj states) (List.replicate (bt N ps ps.length) am):=
   ⟨i,by simp,λa q=>(e a q).1,λa q=>(e a q).2,λx c=>by rw[V_ c];decide⟩
  exact rP h
end
def ya{b:Nat}{l:aG}(h:∀x,x∈l->FB b x)(a:20<=b)(i:Nat):FB b (l.getD i am):=by
 rw[Vd];cases q:l[i]? with
 |none=>exact FB.aF (show FB 20 am from FB.zero) a
 |some x=>exact h x (Vf q)
def Tz{w:dX}(a:Nt.fh w){c:Fr}(l:FB 60 c)(n:0<c.2):FB 400 (valueAt w c):=by
 have e:=DS a.zp a.zq l n;have b:=λi=>ya a.yK ∅ i;have d:=λi=>ya a.vF ∅ i;unfold valueAt;generalize jv w.period c=m at e;have p:∀f k,FB 400 (lZ w m f k):=by
  intro f;induction f with
  |zero=>intro k;exact(b _).aF ∅
  |succ f o=>
   intro k;unfold lZ;split
   ·unfold qM;have g:=(b k).dS (b (k-1));have h:=e.dS (d (k-1));have j:=(d k).dS (d (k-1));exact((b (k-1)).plus ((g.bI h).cU j)).aF ∅
   ·exact o _
 exact p _ _
def DR{b:Nat}{x:Fr}(h:FB b x)(a:0<x.2):Mg (2^b) x:=by
 refine⟨a,?_⟩;have d:x.1.natAbs<2^b:=PySem.intBits_le_iff.mp h.1;have:((2^b:Nat):Int)*1<=((2^b:Nat):Int)*x.2:=VX ⋯ ⋯;generalize 2^b=c at*
 lia
def Cb{b:Nat}{x:Fr}(h:FB b x)(d:0<x.2):x.2<=((2^b:Nat):Int):=by
 have a:x.2.natAbs<2^b:=PySem.intBits_le_iff.mp h.2;generalize 2^b=c at*
 lia
def TJ{b:ao}{a:Nat}{w:dX}(h:fV b a=some w):Nt.fh w:=by
 unfold fV at h;split at h
 ·simp at h
 ·rename_i k;split at h
  ·simp at h
  ·dsimp only at h;split at h
   ·simp at h
   ·rename_i f;split at h
    ·simp at h
    ·simp only[VC] at h;subst h;have e:∀x,x∈bS b a (b.getD a 0).toNat->cO x.1 x.2=true:=by
      have:((bS b a (b.getD a 0).toNat).all λx=>cO x.1 x.2)=true:=by simpa using f
      exact VO.mp this
     have d:∀i,FB 20 ((bS b a (b.getD a 0).toNat).getD i am):=λi=>ya (λx c=>(oO (e x c)).1) ∅ i;have g:∀i,0<((bS b a (b.getD a 0).toNat).getD i am).2:=λi=>i_ (λx c=>(oO (e x c)).2) i;refine⟨?_,?_,?_,d 0,λx c=>?_,λx c=>?_,g 0⟩
     ·simp[sD]
     ·show 0<(cC _ 1 _).length;rw[sD];omega
     ·show(cC _ 1 _).length<=8;rw[sD];omega
     ·have c:x∈cC (bS b a (b.getD a 0).toNat) 1 (b.getD a 0).toNat:=c;unfold cC at c;obtain⟨j,_,rfl⟩:=Vz.mp c;exact d _
     ·have c:x∈cC (bS b a (b.getD a 0).toNat) 2 (b.getD a 0).toNat:=c;unfold cC at c;obtain⟨j,_,rfl⟩:=Vz.mp c;exact d _
structure Fs(e d:Nat)(x:Fr):Prop where
 mg:Mg (2^e) x
 den:x.2<=((2^d:Nat):Int)
def Fs.fk{e d:Nat}{x:Fr}(h:Fs e d x)(a:e+d+1<=67108864):cV x:=by
 have c:=h.mg.1;refine⟨j9 (b:=e+d) ?_ a,j9 (b:=d) (nj ⋯ h.den) ⋯⟩;have q:(x.1.natAbs:Int)<=((2^e:Nat):Int)*((2^d:Nat):Int):=Wp h.mg.2 (VX h.den (Int.natCast_nonneg _));rw[<-Wa, <-Xc] at q
 exact_mod_cast q
def Fs.aF{e d a d':Nat}{x:Fr}(h:Fs e d x)(c:e<=a)(b:d<=d'):Fs a d' x:=
 ⟨h.mg.aF (VW ∅ c),Wp h.den (by exact_mod_cast VW ∅ b)⟩
def rJ{a b:Int}{d d':Nat}(f:0<a)(c:a<=((2^d:Nat):Int))(e:b<=((2^d':Nat):Int))(g:0<b):a*b<=((2^(d+d'):Nat):Int):=by rw[Xc,Wa];exact Int.mul_le_mul c e ⋯ ⋯
def Fs.bI{e d a d':Nat}{x y:Fr}(h:Fs e d x)(q:Fs a d' y):Fs (e+a) (d+d') (bI x y):=
 ⟨by have:=h.mg.bI q.mg;rwa[<-Xc] at this,rJ h.mg.1 h.den q.den q.mg.1⟩
def Fc{a b:Nat}:2^a+2^b<=2^(max a b+1):=by have c:2^a<=2^(max a b):=VW ∅ (Nat.le_max_left ..);have d:2^b<=2^(max a b):=VW ∅ (Nat.le_max_right ..);rw[Xf];lia
def Fs.plus{e d a d':Nat}{x y:Fr}(h:Fs e d x)(q:Fs a d' y):Fs (max e a+1) (d+d') (plus x y):=
 ⟨(h.mg.plus q.mg).aF Fc,rJ h.mg.1 h.den q.den q.mg.1⟩
def Fs.dS{e d a d':Nat}{x y:Fr}(h:Fs e d x)(q:Fs a d' y):Fs (max e a+1) (d+d') (dS x y):=
 ⟨(h.mg.dS q.mg).aF Fc,rJ h.mg.1 h.den q.den q.mg.1⟩
def Fs.neg{e d:Nat}{x:Fr}(h:Fs e d x):Fs e d (cf x):=⟨h.mg.neg,h.den⟩
def Fs.zero{e d:Nat}:Fs e d am:=⟨Mg.zero.aF (We _),by show(1:Int)<=_;exact_mod_cast Nat.one_le_two_pow⟩
def uP{x:Fr}(a: -1000000<=x.1/\x.1<=1000000)(b:1<=x.2/\x.2<=1000000):Fs 20 20 x:=
 ⟨DR (vL a b) ⋯,Cb (vL a b) ⋯⟩
structure m6(E:Nat)(kept:c7):Prop where
 v:∀k,Fs E 64 (bY kept k).1
 i:∀k,Fs E 64 (bY kept k).2
theorem CK{E:Nat}{kept:c7}(b:m6 E kept):∀(l:List (Int×Fr))(a:Fr)(e d:Nat),Fs e d a->E+20<=e->(∀x,x∈l->Fs 20 20 x.2)->Fs (e+l.length) (d+84*l.length) (l.foldl (λa x=>plus a (bI x.2 (bY kept x.1.toNat).2)) a)
 |[],a,e,d,h,_,_=>h.aF (by simp) (by simp)
 |x::l,a,e,d,h,k,c=>by have f:=(c x (by simp)).bI (b.i x.1.toNat);have g:Fs (e+1) (d+84) (plus a (bI x.2 (bY kept x.1.toNat).2)):=(h.plus f).aF ⋯ ⋯;exact(CK b l _ (e+1) (d+84) g ⋯ λy j=>c y (by simp[j])).aF (by simp;lia) (by simp;lia)
section
variable{N:Nat}{ps:bh}{ws:c_}(A:fE N ps ws)
include A
theorem DK{k:Nat}(b:k<ps.length){x:Int×Fr}(c:x∈cP ps k):Fs 20 20 x.2:=by obtain⟨p,a,e⟩:=yO A.G A.Q b c;rw[e];exact uP (A.Q.aX p a) (A.Q.ib p a)
theorem Oc{k:Nat}(i:k<ps.length){x:Int×Fr}(c:x∈cP ps k):0<=x.1/\x.1.toNat<ps.length/\(ps.getD x.1.toNat ae).kind=2:=by
 unfold cP at c;split at c
 ·simp at c
 ·rename_i j;rcases Vo.mp c with rfl|c
  ·exact⟨by simp,by simpa using i,by show(ps.getD (k:Int).toNat ae).kind=2;rw[VE];simpa using j⟩
  ·obtain⟨d,e,c⟩:=V'.mp c;have f:=A.G.W d e;have:=f.a0;have:=f.b0;unfold dN at c;split at c
   ·rename_i q;have h:=A.G.nQ d e q.1;have g:=A.kT d e q.1;simp at c;subst c;exact⟨f.b0,by show d.b.toNat<_;omega,g.2⟩
   ·split at c
    ·rename_i q;have h:=A.G.nQ d e q.1;have g:=A.kT d e q.1;simp at c;subst c;exact⟨f.a0,by show d.a.toNat<_;omega,g.1⟩
    ·simp at c
theorem FJ{rule:Int}(D:rule=0\/rule=1){aj:Fr}(f:Fs 21 20 aj){d:PySem.Addr}{E:Nat}(J:E+3000<=67108864){kept:c7}(b:m6 E kept)(q:∀k,k<ps.length->cT (ps.getD k ae).kind=true->kM kept k){k:Nat}(a:k<ps.length)(B:cT (ps.getD k ae).kind=true):
  xn ⟨ak N ps ws,rule,aj,d⟩ k kept/\Fs (E+60) 1200 (iX (ak N ps ws) rule aj kept k):=by
 have t:=uP (A.Q.aX _ (eD a)) (A.Q.ib _ (eD a));have g:Fs 0 0 (rule,1):=⟨⟨by show(0:Int)<1;decide,by rcases D with rfl|rfl<;>decide⟩,by show(1:Int)<=((2^0:Nat):Int);decide⟩
 have c:=b.v k;have r:=b.i k;have h:=t.bI c;have l:=f.bI h;have m:=g.bI r;have n:=g.bI c;have s:(ak N ps ws).eO.getD k []=cP ps k:=sj A.G a;have C:(ak N ps ws).eO.length=ps.length:=by show((List.range ps.length).map (cP ps)).length=_;simp
 have L:=yN A.G A.Q k;have p:∀j,Fs (E+31) 925 (jU kept ((cP ps k).take j)):=λj=>by
  have y:Fs (E+20) 1 am:=Fs.zero;have K:((cP ps k).take j).length<=11:=by rw[V0];lia
  exact(CK b ((cP ps k).take j) am (E+20) 1 y ⋯ λx e=>DK A a (Xj e)).aF ⋯ ⋯
 have z:Fs (E+31) 925 (jU kept (cP ps k)):=by have:=p (cP ps k).length;rwa[Wj] at this
 have o:=f.bI z;refine⟨⟨⟨⋯,by rw[VE];exact a,by rw[VE,C];exact a,by simpa using q k a B⟩,⟨f.fk ⋯,g.fk ⋯⟩,λ_=>?_,λ_=>?_⟩,?_⟩
 ·simp only[VE];exact⟨t.fk ⋯,c.fk ⋯,r.fk ⋯,h.fk ⋯,l.fk ⋯,m.fk ⋯⟩
 ·simp only[VE,s];refine⟨c.fk ⋯,λx e=>?_,λj=>(p j).fk ⋯,o.fk ⋯,n.fk ⋯⟩;obtain⟨F,H,I⟩:=Oc A a e;have u:=DK A a e;have w:=b.i x.1.toNat;exact⟨F,q _ H (by rw[I];rfl),u.fk ⋯,w.fk ⋯,(u.bI w).fk ⋯⟩
 ·unfold iX;rw[s];split
  ·exact(l.plus m).aF ⋯ ⋯
  ·exact(o.plus n).aF ⋯ ⋯
end
theorem Fh{d:Nat}:∀{l:aG},dn l->(∀x,x∈l->x.2<=((2^d:Nat):Int))->cy l<=((2^(d*l.length):Nat):Int)
 |[],_,_=>by show(1:Int)<=_;exact_mod_cast Nat.one_le_two_pow
 |x::l,b,h=>by have e:=Fh (l:=l) (λy a=>b y (by simp[a])) λy a=>h y (by simp[a]);have c:=sQ (l:=l) λy a=>b y (by simp[a]);show x.2*cy l<=_;rw[Vu,Nat.mul_succ,Nat.add_comm];exact rJ (b x (by simp)) (h x (by simp)) e c
section
variable{N:Nat}{ps:bh}{ws:c_}(A:fE N ps ws)
include A
theorem Rw(t:im (ak N ps ws))(j:∀k,k<ps.length->dg (ps.getD k ae).kind=true->∃w,ws[k]? =some (some w)/\Nt.fh w){rule:Int}(q:rule=0\/rule=1){aj:Fr}(p:Fs 21 20 aj){d:PySem.Addr}{E:Nat}(m:E+3000<=67108864)(B:400<=E)
  {kept:c7}(i:m6 E kept)(n:∀k,k<ps.length->cT (ps.getD k ae).kind=true->kM kept k){time:Fr}(r:FB 60 time)(f:0<time.2){states:ao}(o:states.length=(bw ps).length):
  xo ⟨ak N ps ws,rule,aj,d⟩ states time kept/\∀x,x∈gq (ak N ps ws) rule aj states time kept->Fs (E+60) 1200 x:=by
 refine⟨⟨t,o,⟨r,f⟩,A.wl,j,λk a b=>(FJ A q p m i n a b).1⟩,λx g=>?_⟩;rw[v0 A.G o] at g;unfold iU at g;rcases VQ.mp g with h|h
 ·rw[V_ h];exact Fs.zero
 ·obtain⟨k,a,h⟩:=V'.mp h;have a:=VB.mp a;unfold kq at h;have u:(ak N ps ws).af=ps:=rfl;have v:(ak N ps ws).waves=ws:=rfl;rw[u,v] at h;split at h
  ·simp at h
  ·split at h
   ·simp at h;subst h;exact Fs.zero
   ·split at h
    ·rename_i s;simp only[VH] at h;subst h;obtain⟨w,y,z⟩:=j k a s;have e:(ws.getD k none).getD mN=w:=by rw[Vd,y];rfl
     have c:=(wT A f a s).2;rw[e] at c ⊢;have l:=Tz z r f;exact(show Fs 400 400 _ from ⟨DR l c,Cb l c⟩).aF ⋯ ⋯
    ·split at h
     ·rename_i b;simp only[VH] at h;subst h;exact(FJ (d:=d) A q p m i n a b).2.neg
     ·split at h
      ·simp only[VH] at h;subst h;exact(uP (A.Q.aX _ (eD a)) (A.Q.ib _ (eD a))).aF ⋯ ⋯
      ·simp only[VH] at h;subst h;exact Fs.zero
end
section
variable{N:Nat}{ps:bh}{ws:c_}(A:fE N ps ws)
include A
theorem Tu{aj:Fr}(H:lD aj){states:ao}{E:Nat}(Y:E+100000<=67108864){b:aG}(o:b.length=bt N ps ps.length)(g:∀x,x∈b->Fs (E+60) 1200 x){s:a8}(h:j7 (ak N ps ws) aj states=some s):
  A' s b/\(fD s b).length=bt N ps ps.length/\∀x,x∈fD s b->Fs (E+5117) 38700 x:=by
 obtain⟨M,C⟩:=si A H.sn.1 (states:=states);have X:=wE A.G A.Q A.n8;have B:kh (bt N ps ps.length) (fm (ak N ps ws) aj states) b:=⟨M,o,λv q=>(C v q).1,λv q=>(C v q).2,λx a=>(g x a).mg.1⟩
 have R:=rP B;unfold j7 solve at h;rw[R.aC] at h;have u:=HY A H (Vm _) h;have m:=tf R (Vm _) h;have t:=m.aC;have d:dn b:=λx a=>(g x a).mg.1;have I:cy b<=((2^33600:Nat):Int):=Wp (Fh d λx a=>(g x a).den) (by exact_mod_cast VW ∅ (by rw[o];omega));obtain⟨z,T⟩:=sY b d;have j:aR b<=((2^33600:Nat):Int):=Wp T I;have V:Sz (aR b):=j9 (b:=33600) (nj (by omega) j) ∅;have K:∀r,r∈s->∀x,x∈r->Sz x:=λr i x a=>j9 (u r i x a) ∅;refine⟨⟨by omega,by omega,λr i=>by rw[m.row r i,t],HF d I ∅,λx a=>⟨d x a,?_⟩,λr i x a=>⟨(K r i x a).mul V,λy l=>?_⟩⟩,?_,λx a=>?_⟩
 ·have f:=(g x a).fk (by omega);have aa:=d x a;refine f.1.mul (j9 (b:=33600) (nj (Int.ediv_nonneg (by omega) (by omega)) ?_) ∅);exact Wp (Int.ediv_le_self _ (by omega)) j
 ·unfold cS at l;obtain⟨L,J,rfl⟩:=Vz.mp l;refine(K r i x a).mul (j9 (b:=E+60+33600) ?_ (by omega));have q:=Jd (β:=2^(E+60)) (g L J).mg z (At b d L J);have S:((2^(E+60):Nat):Int)*aR b<=((2^(E+60+33600):Nat):Int):=by
   rw[Xc 2 (E+60),Wa];exact VX j (Int.natCast_nonneg _)
  have:=Wp q S
  exact_mod_cast this
 ·unfold fD;simp[t]
 ·unfold fD at a;obtain⟨k,D,rfl⟩:=List.mem_mapIdx.mp a;have p:=Vs D;obtain⟨_,P⟩:=Ax B (s:=s) (by unfold solve;rw[R.aC];exact h);have w:0<(s[k]).getD k 0:=by
   have:=P (unknown s.length (cS b (aR b)) (aR b) k s[k]) (by unfold fD;exact List.mem_mapIdx.mpr ⟨k,D,rfl⟩);have:0<s[k].getD k 0*aR b:=this;exact Int.pos_of_mul_pos_left this z
  have W:=(Tv (n:=bt N ps ps.length) (k:=k) (β:=2^(E+60)) (G:=2^5051) (b:=b) (r:=s[k]) o (λy l=>(g y l).mg) (u _ p) w).1;rw[t];refine⟨Mg.aF W ?_,?_⟩
  ·have e:2^(E+5117)=2^6*(2^5051*2^(E+60)):=by rw[<-Xc, <-Xc];congr 1;omega
   rw[e];exact W0 _ (by show _<=64;omega)
  ·show s[k].getD k 0*aR b<=_;have O:s[k].getD k 0<=((2^5051:Nat):Int):=by
    have F:k<s[k].length:=by rw[m.row _ p];omega
    have:=u _ p _ (Vs F);have e:s[k].getD k 0=s[k][k]:=by rw[Vd,Ve F];rfl
    rw[e] at w ⊢;generalize 2^5051=c at*;omega
   exact Wp (rJ w O j z) (by exact_mod_cast VW ∅ (by omega))
end
section
variable{N:Nat}{ps:bh}{ws:c_}(A:fE N ps ws)
include A
theorem AR{e d:Nat}(w:e+d+d+3<=67108864){b:aG}(y:b.length=bt N ps ps.length)(n:∀x,x∈b->Fs e d x){k:Nat}(c:k<ps.length)(h:(ps.getD k ae).kind≠3):
  pK (ak N ps ws) b k/\pz (ak N ps ws) b k/\Fs (e+1) (d+d) (fU (ak N ps ws) b k)/\Fs e d (fK (ak N ps ws) b k):=by
 have g:∀i,Fs e d (b.getD i am):=λi=>by
  rw[Vd];cases q:b[i]? with
  |none=>exact Fs.zero
  |some x=>exact n x (Vf q)
 have f:∀a,Fs e d (jw b a):=λa=>by
  unfold jw;split
  ·exact Fs.zero
  ·exact g _
 obtain⟨l,p,b0,r⟩:=A.G.ok.a0 k c h;have v:=tm (N:=N) (ps:=ps) ps.length;have o:(ak N ps ws).aW.getD k 0=((bt N ps k:Nat):Int):=qz ps N k c;have s:=wG (N:=N) c;have t:=wF (N:=N) (ps:=ps) (k:=k+1) (j:=ps.length) ⋯ (Vm _);have u:1<=cM (ps.getD k ae):=by unfold cM;rw[Vg h];split<;>lia
 have m:(ak N ps ws).af=ps:=rfl;refine⟨?_,?_,((f _).dS (f _)).aF ⋯ ⋯,g _⟩
 ·unfold pK;simp only[VE,m];exact⟨⋯,c,⟨l,⋯⟩,⟨b0,⋯⟩,(f _).fk ⋯,(f _).fk ⋯⟩
 ·unfold pz;simp only[VE,o];exact⟨⋯,by show k<(fC (N:Int) ps).length;rw[wH];exact c,⋯,⋯⟩
theorem Je(g:im (ak N ps ws))(n:∀k,k<ps.length->dg (ps.getD k ae).kind=true->∃w,ws[k]? =some (some w)/\Nt.fh w){rule:Int}(y:rule=0\/rule=1){aj:Fr}(v:Fs 21 20 aj)(h:lD aj)(t:FB 30 aj){d:PySem.Addr}{E:Nat}(O:E+200000<=67108864)(p:400<=E)
  {kept:c7}(l:m6 E kept)(u:∀k,k<ps.length->cT (ps.getD k ae).kind=true->kM kept k){time:Fr}(z:FB 60 time)(B:0<time.2){states:ao}(i:states∈cj (bw ps).length):
  re ⟨ak N ps ws,rule,aj,d⟩ time kept states/\∀m,gQ (ak N ps ws) rule aj time kept states=some m->m.aE.length=bt N ps ps.length/\∀x,x∈m.aE->Fs (E+5117) 38700 x:=by
 have c:=(rh _ _ i).1;obtain⟨C,D⟩:=Rw (d:=d) A g n y v (by omega) p l u z B c;have q:=FN A (rule:=rule) (aj:=aj) (time:=time) (kept:=kept) c;have j:=λs (b:j7 (ak N ps ws) aj states=some s)=>Tu A h (by omega) q D b;refine⟨⟨⟨⟨g,t,c⟩,i,MO A h⟩,C,λs b=>?_⟩,λm a=>?_⟩
 ·obtain⟨F,G,H⟩:=j s b;refine⟨F,c,λM r=>?_⟩;obtain⟨k,rfl,f,o⟩:=kY.mp r;obtain⟨I,J,K,L⟩:=AR A (e:=E+5117) (d:=38700) (by omega) G H f (by rw[o];decide);refine⟨I,J,?_,?_,?_⟩
  ·rw[VE];exact K.fk (by omega)
  ·rw[VE];exact L.fk (by omega)
  ·rw[VE];exact(uP (A.Q.aX _ (eD f)) (A.Q.ib _ (eD f))).fk ∅
 ·unfold gQ at a;cases b:j7 (ak N ps ws) aj states with
  |none=>rw[b] at a;simp at a
  |some s=>
   rw[b] at a;simp only[Option.bind_some] at a;split at a
   ·simp only[VC] at a;subst a;exact(j s b).2
   ·simp at a
end
def v8{e d bits:Nat}(i:bits<=64){x:Fr}(h:Fs e d x)(n:e+d+66<=67108864):xp x (2^bits)/\Fs (e+1) 64 (Nt.rounded x (2^bits)):=by
 have g:=h.mg.1;have j:(0:Int)<2^bits:=Int.pow_pos ∅;have f:(2:Int)^bits=((2^bits:Nat):Int):=by rw[Int.natCast_pow];rfl
 have a:(2:Int)^bits<=((2^64:Nat):Int):=by rw[f];exact_mod_cast VW ∅ i
 have l:Sz (2^bits:Int):=j9 (b:=64) (nj ⋯ a) ∅;have c:=h.fk ⋯;have k:x.1.natAbs<=2^(e+d):=by
  have q:(x.1.natAbs:Int)<=((2^e:Nat):Int)*((2^d:Nat):Int):=Wp h.mg.2 (VX h.den (Int.natCast_nonneg _));rw[<-Wa, <-Xc] at q
  exact_mod_cast q
 refine⟨⟨g,c.1.mul l,Sz.mul (j9 (b:=e+d+64) ?_ ⋯) c.2⟩,⟨?_,?_⟩⟩
 ·refine Vy (Int.natAbs_ediv_le_natAbs _ _) ?_;rw[WJ,Xc 2 (e+d)];exact Wt k (nj ⋯ a)
 ·have m:=Ry (β:=2^e) h.mg j;refine Mg.aF m ?_;rw[Xf];have:1<=2^e:=Nat.one_le_two_pow
  lia
 ·exact a
section
variable{N:Nat}{ps:bh}{ws:c_}(A:fE N ps ws)
include A
theorem yz{E bits:Nat}(c:bits<=64)(o:E+200000<=67108864){m:i7}(n:m.aE.length=bt N ps ps.length)(l:∀x,x∈m.aE->Fs (E+5117) 38700 x):
  tO (ak N ps ws) m (2^bits)/\m6 (E+5200) (fc (ak N ps ws) m.aE (2^bits))/\∀k,k<ps.length->cT (ps.getD k ae).kind=true->kM (fc (ak N ps ws) m.aE (2^bits)) k:=by
 have j:=λk (a:k<ps.length) (b:cT (ps.getD k ae).kind=true)=>AR A (ws:=ws) (e:=E+5117) (d:=38700) (by omega) n l a (by rcases se b with q|q<;>rw[q]<;>decide);refine⟨⟨A.Q.oC,λk a b=>?_⟩,⟨λk=>?_,λk=>?_⟩,λk a b=>?_⟩
 ·obtain⟨h,i,f,g⟩:=j k a b;exact⟨h,i,(v8 c f (by omega)).1,(v8 c g (by omega)).1⟩
 ·rw[vh A];split
  ·rename_i q;obtain⟨h,i,f,g⟩:=j k q.1 q.2;exact(v8 c f (by omega)).2.aF (by omega) (by omega)
  ·exact Fs.zero
 ·rw[vh A];split
  ·rename_i q;obtain⟨h,i,f,g⟩:=j k q.1 q.2;exact(v8 c g (by omega)).2.aF (by omega) (by omega)
  ·exact Fs.zero
 ·refine⟨(Nt.rounded (fU (ak N ps ws) m.aE k) (2^bits),Nt.rounded (fK (ak N ps ws) m.aE k) (2^bits)),?_⟩;unfold fc;show((List.range ps.length).map _)[k]? =_;rw[Vq,Wm a];show some (if cT (ps.getD k ae).kind=true then _ else _)=_;rw[Vh b]
end
structure t6(aU:Fr):Prop where
 a:1<=aU.1/\aU.1<=1000000
 b:1<=aU.2/\aU.2<=1000000
def Qo{rule:Int}(j:rule=0\/rule=1){aU:Fr}(d:t6 aU):lD (fQ rule aU)/\Fs 21 20 (fQ rule aU)/\FB 30 (fQ rule aU):=by
 have l:=d.a;have m:=d.b;have e:fQ rule aU=((rule+1)*aU.2,1*aU.1):=rfl;have k:0<=(rule+1)*aU.2/\(rule+1)*aU.2<=2000000:=by rcases j with rfl|rfl<;>lia
 have c:(fQ rule aU).2=aU.1:=by rw[e];show 1*aU.1=_;lia
 have f:Mg 2000000 (fQ rule aU):=by refine⟨by rw[c];lia,?_⟩;rw[c];show(((rule+1)*aU.2).natAbs:Int)<=((2000000:Nat):Int)*aU.1;have h:((2000000:Nat):Int)=2000000:=rfl;rw[h];lia
 have g:((2^20:Nat):Int)=1048576:=by decide
 have i:(fQ rule aU).2<=((2^20:Nat):Int):=by rw[c,g];lia
 refine⟨⟨f,by rw[c];lia⟩,⟨f.aF ∅,i⟩,⟨Bt.of ?_,Bt.of ?_⟩⟩
 ·show((rule+1)*aU.2).natAbs<2^30;have:(2:Nat)^30=1073741824:=by decide
  lia
 ·rw[c];have:(2:Nat)^30=1073741824:=by decide
  lia
def IZ{j:Int}(g:0<=j)(h:j<=100000){aU:Fr}(c:t6 aU):FB 60 (j*aU.1,aU.2)/\PySem.IntMulOk j aU.1:=by
 have i:=c.a;have k:=c.b
 have e:Bt 20 j:=Bt.of (by have:(2:Nat)^20=1048576:=by decide
                           lia)
 have d:Bt 20 aU.1:=Bt.of (by have:(2:Nat)^20=1048576:=by decide
                              lia)
 have f:Bt 20 aU.2:=Bt.of (by have:(2:Nat)^20=1048576:=by decide
                              lia)
 exact⟨⟨(e.mul d).aF ∅,f.aF ∅⟩,(e.sz ∅).mul (d.sz ∅)⟩
structure jL(N:Nat)(ps:bh)(r:dr)(j:Nat):Prop where
 rule:r.rule=0\/r.rule=1
 aU:t6 r.aU
 made:r.made=(j:Int)
 gF:∃bits,bits<=64/\r.gF=2^bits
 st:r.cF.states∈cj (bw ps).length
 aC:r.cF.aE.length=bt N ps ps.length
 fs:∀x,x∈r.cF.aE->Fs (5200*(j+2)) 38700 x
 kept:m6 (5200*(j+2)) r.di
 has:∀k,k<ps.length->cT (ps.getD k ae).kind=true->kM r.di k
section
variable{N:Nat}{ps:bh}{ws:c_}(A:fE N ps ws)(NO:im (ak N ps ws))(WO:∀k,k<ps.length->dg (ps.getD k ae).kind=true->∃w,ws[k]? =some (some w)/\Nt.fh w)
include A NO WO
theorem xD{r:dr}{j:Nat}(a:jL N ps r j)(H:j<=10000):xa (ak N ps ws) r/\∀r',fG (ak N ps ws) r=some r'->jL N ps r' (j+1):=by
 obtain⟨B,C,D⟩:=Qo a.rule a.aU;have I:=a.made;obtain⟨F,G⟩:=IZ (j:=r.made+1) ⋯ ⋯ a.aU;have J:=a.aU.b;obtain⟨bits,i,e⟩:=a.gF;have t:∀c,c∈r.cF.states::cj (bw ps).length->c∈cj (bw ps).length:=λc h=>by
  rcases Vo.mp h with rfl|h
  ·exact a.st
  ·exact h
 have o:=λd c (h:c∈r.cF.states::cj (bw ps).length)=>Je (d:=d) A NO WO a.rule C B D (E:=5200*(j+2)) ⋯ ⋯ a.kept a.has (time:=iE r (r.made+1)) F (by show 0<r.aU.2;lia) (t c h);have n:∀m,fM (ak N ps ws) r.rule (fQ r.rule r.aU) (r.cF.states::cj (ak N ps ws).diodes.length) (iE r (r.made+1)) r.di=some m->m.states∈cj (bw ps).length/\m.aE.length=bt N ps ps.length/\∀x,x∈m.aE->Fs (5200*(j+2)+5117) 38700 x:=λm h=>by
  unfold fM at h;obtain⟨c,p,h⟩:=rW h;have q:=(o 0 c p).2 m h;refine⟨?_,q⟩;unfold gQ at h;cases u:j7 (ak N ps ws) (fQ r.rule r.aU) c with
  |none=>rw[u] at h;simp at h
  |some s=>
   rw[u] at h;simp only[Option.bind_some] at h;split at h
   ·simp only[VC] at h;subst h;exact t c p
   ·simp at h
 refine⟨⟨NO,G,λd c h=>(o d c h).1,λm h=>?_⟩,λr' h=>?_⟩
 ·obtain⟨_,f,g⟩:=n m h;rw[e];exact(yz A i (E:=5200*(j+2)) ⋯ f g).1
 ·unfold fG at h;cases l:fM (ak N ps ws) r.rule (fQ r.rule r.aU) (r.cF.states::cj (ak N ps ws).diodes.length) (iE r (r.made+1)) r.di with
  |none=>rw[l] at h;simp at h
  |some m=>
   rw[l] at h;simp only[Wi,VC] at h;subst h;obtain⟨v,f,g⟩:=n m l;obtain⟨K,y,z⟩:=yz A i (E:=5200*(j+2)) ⋯ f g;refine⟨a.rule,a.aU,by show r.made+1=_;lia,⟨bits,i,e⟩,v,f,λx w=>(g x w).aF ⋯ ⋯,?_,?_⟩
   ·show m6 _ (fc _ m.aE r.gF);rw[e,show 5200*(j+1+2)=5200*(j+2)+5200 by lia];exact y
   ·show ∀k,k<ps.length->_->kM (fc _ m.aE r.gF) k;rw[e];exact z
end
def Cy{a b:Int}(c:a.natAbs<=1000000)(d:b.natAbs<=1000000):FB 20 (a,b):=
 ⟨Bt.of (by show a.natAbs<2^20
            have:(2:Nat)^20=1048576:=by decide
            omega),Bt.of (by show b.natAbs<2^20
                             have:(2:Nat)^20=1048576:=by decide
                             omega)⟩
section
variable{N:Nat}{ps:bh}{ws:c_}(A:fE N ps ws)(NO:im (ak N ps ws))(WO:∀k,k<ps.length->dg (ps.getD k ae).kind=true->∃w,ws[k]? =some (some w)/\Nt.fh w)
include A NO WO
theorem FK(d:PySem.Addr){a:ao}(e:a∈cj (bw ps).length):
  re ⟨ak N ps ws,0,am,d⟩ am (List.replicate ps.length (some (am,am))) a/\∀m,gQ (ak N ps ws) 0 am am (List.replicate ps.length (some (am,am))) a=some m->m.aE.length=bt N ps ps.length/\∀x,x∈m.aE->Fs (400+5117) 38700 x:=by
 have b:FB 20 am:=FB.zero;refine Je A NO WO (.inl rfl) Fs.zero ⟨Mg.zero.aF ⋯,∅⟩ (b.aF ∅) (E:=400) ∅ ∅ ⟨λk=>by rw[ve A];exact Fs.zero,λk=>by rw[ve A];exact Fs.zero⟩ (λk c _=>⟨(am,am),by rw[Wf,Vh c]⟩) (b.aF ∅) ∅ e
theorem QT:xk (ak N ps ws):=⟨NO,λd b a=>(FK A NO WO d a).1⟩
theorem SV{rule e d bits:Int}(o:rule=0\/rule=1)(g:t6 (e,d))(t:0<=bits/\bits<=64){m:i7}(h:li (ak N ps ws)=some m):
  rb (ak N ps ws) rule (e,d) bits m/\jL N ps ⟨rule,(e,d),ga bits,0,m,fc (ak N ps ws) m.aE (ga bits)⟩ 0:=by
 have r:=g.a;have u:=g.b;simp only at r u;unfold li fM at h;obtain⟨j,f,h⟩:=rW h;have f:j∈cj (bw ps).length:=f;obtain⟨l,n⟩:=(FK A NO WO 0 f).2 m h;have w:m.states=j:=by
  unfold gQ at h;cases p:j7 (ak N ps ws) am j with
  |none=>rw[p] at h;simp at h
  |some s=>
   rw[p] at h;simp only[Option.bind_some] at h;split at h
   ·simp only[VC] at h;subst h;rfl
   ·simp at h
 have c:ga bits=2^bits.toNat:=rfl;obtain⟨z,q,B⟩:=yz A (bits:=bits.toNat) ⋯ (E:=400) ∅ l n;refine⟨⟨NO,(Cy (a:=rule+1) (b:=1) (by rcases o with rfl|rfl<;>decide) ∅).sz,(Cy (a:=e) (b:=d) ⋯ ⋯).sz,t,by rw[c];exact z⟩,⟨o,g,rfl,⟨bits.toNat,⋯,c⟩,by rw[w];exact f,l,λx y=>(n x y).aF ∅ ∅,?_,?_⟩⟩
 ·show m6 _ (fc _ m.aE (ga bits));rw[c];exact⟨λk=>(q.v k).aF ∅ ∅,λk=>(q.i k).aF ∅ ∅⟩
 ·show ∀k,k<ps.length->_->kM (fc _ m.aE (ga bits)) k;rw[c];exact B
end
section
variable{N:Nat}{ps:bh}{ws:c_}(A:fE N ps ws)(NO:im (ak N ps ws))(WO:∀k,k<ps.length->dg (ps.getD k ae).kind=true->∃w,ws[k]? =some (some w)/\Nt.fh w)
include A NO WO
theorem Bj:∀(j:Nat){r r':dr}{i:Nat},jL N ps r i->i+j<=10000->jP (ak N ps ws) j r=some r'->jL N ps r' (i+j)
 |0,r,r',i,a,_,h=>by cases h;exact a
 |j+1,r,r',i,a,d,h=>by
  have h:(jP (ak N ps ws) j r).bind (fG (ak N ps ws))=some r':=h;cases b:jP (ak N ps ws) j r with
  |none=>rw[b] at h;simp at h
  |some e=>rw[b] at h;have c:=Bj j a ⋯ b;exact(xD A NO WO c ⋯).2 r' h
theorem Bh:∀(k:Nat){r:dr}{i:Nat},jL N ps r i->i+k<=10000->∃b,b<=i+k/\jL N ps (gB (ak N ps ws) k r).2 b
 |0,r,i,a,_=>⟨i,⋯,a⟩
 |k+1,r,i,a,f=>by
  unfold gB;cases d:fG (ak N ps ws) r with
  |none=>exact⟨i,⋯,a⟩
  |some q=>obtain⟨b,e,c⟩:=Bh k ((xD A NO WO a ⋯).2 q d) ⋯;exact⟨b,⋯,c⟩
theorem S6{s:bX}{r:dr}{i:Nat}{k:Int}(e:s.net=some (ak N ps ws))(f:s.run=some r)(c:jL N ps r i)(g:0<=k)(h:i+100<=10000):tY s k:=by refine⟨g,λm n o a b j r' l d=>?_⟩;rw[e] at a;rw[f] at b;cases a;cases b;exact(xD A NO WO (Bj A NO WO j c ⋯ d) ⋯).1
end
section
variable{N:Nat}{ps:bh}{ws:c_}(A:fE N ps ws)
include A
theorem O0{s:bX}{r:dr}{i:Nat}{p k:Int}(y:s.net=some (ak N ps ws))(z:s.run=some r)(a:jL N ps r i)(g:0<=p)(f:0<=k)(D:i<=10000):tQ s (p,k):=by
 refine⟨g,f,λn G h l=>?_⟩;rw[y] at h;rw[z] at l;cases h;cases l;have E:=a.made;have F:=a.aU.b;have u:dn r.cF.aE:=λx c=>(a.fs x c).mg.1;refine⟨λ_=>⟨(IZ (j:=r.made) (by omega) (by omega) a.aU).2,by omega⟩,λ_=>⟨⟨g,f,?_,λv t=>?_⟩,λx c=>(Ft A u (ws:=ws) g f).2 x c⟩⟩
 ·show(N:Int)<=(r.cF.aE.length:Nat);have:=tm (N:=N) (ps:=ps) ps.length;rw[a.aC];omega
 ·have w:k.toNat<ps.length:=by have:k<(ps.length:Nat):=v
                               omega
  obtain⟨m,o,B,C⟩:=AR A (ws:=ws) (e:=5200*(i+2)) (d:=38700) (by omega) a.aC a.fs w t;have q:((k.toNat:Nat):Int)=k:=by omega
  rw[q] at m o;exact⟨m,o,B.fk (by omega),C.fk (by omega)⟩
theorem Qg{s:bX}{r:dr}{i:Nat}{k:Int}(f:s.net=some (ak N ps ws))(g:s.run=some r)(c:jL N ps r i)(h:0<=k):tS s k:=by refine⟨h,λn j a b=>?_⟩;rw[f] at a;rw[g] at b;cases a;cases b;exact⟨(rh _ _ c.st).1,λk e d=>kY.mpr ⟨k,rfl,e,d⟩⟩
theorem NP{s:bX}{r:dr}{i:Nat}{k:Int}(g:s.net=some (ak N ps ws))(h:s.run=some r)(a:jL N ps r i)(j:0<=k):tN s k:=by
 refine⟨j,λn l b c d f=>?_⟩;rw[g] at b;rw[h] at c;cases b;cases c
 have e:k.toNat<ps.length:=by have:k<(ps.length:Nat):=d
                              lia
 exact⟨a.has _ e f,(a.kept.v _).mg.1,(a.kept.i _).mg.1⟩
end
theorem AS(b:ao):∀(ps:bh)(d:Nat),(bN b ps d).length=ps.length->∀k,k<ps.length->dg (ps.getD k ae).kind=true->∃w,(bN b ps d)[k]? =some (some w)/\Nt.fh w
 |[],_,_,k,e,_=>by simp at e
 |p::r,d,a,k,e,g=>by
  unfold bN at a ⊢;by_cases c:dg p.kind=true
  ·rw[Vh c] at a ⊢;cases f:fV b d with
   |none=>rw[f] at a;simp at a
   |some w=>
    rw[f] at a;simp only[Vu,Nat.add_right_cancel_iff] at a;cases k with
    |zero=>exact⟨w,rfl,TJ f⟩
    |succ k=>exact AS b r _ a k (by simpa using e) g
  ·rw[Vg c] at a ⊢;simp only[Vu,Nat.add_right_cancel_iff] at a;cases k with
   |zero=>exact absurd g c
   |succ k=>exact AS b r _ a k (by simpa using e) g
def OL{N:Nat}{ps:bh}(P:xi N ps)(n:hZ N ps=[]){ws:c_}(A:fE N ps ws):im (ak N ps ws):=by
 have j:=λk a=>Cw (Cv (N:=N) P.W n k a);have l:∀p,p∈ps->∃k,k<ps.length/\ps.getD k ae=p:=λp b=>by obtain⟨k,a,rfl⟩:=V6 b;exact⟨k,a,by rw[Vd,Ve a];rfl⟩
 refine OK A P.d3 (λp b f=>?_) λp b o=>?_
 ·obtain⟨k,a,e⟩:=l p b;have g:=(j k a).1;rw[yc,e] at g;have i:∀x,x∈eP p->x<=N:=λx r=>by
   by_cases q:(N:Int)<x
   ·exact absurd (.inr ⟨x,r,q⟩) g
   ·lia
  have m:p.kind≠3:=λq=>by rw[q] at f;simp[iQ,gn] at f
  have:p.c∈eP p/\p.d∈eP p:=by unfold eP;rw[Vg m,Vh f];simp
  exact⟨i _ this.1,i _ this.2⟩
 ·obtain⟨k,a,e⟩:=l p b;have h:=(j k a).2.2;unfold gM at h;rw[e,Vh o,Vt] at h;simpa using h.2
inductive gf:bX->Nat->Prop
 |new {j:Nat}:gf ⟨none,none⟩ j
 |net {N:Nat} {ps:List cJ} {ws:List (Option dX)} {j:Nat} (A:fE N ps ws) (NO:im (ak N ps ws)) (WO:∀k,k<ps.length->dg (ps.getD k ae).kind=true->∃w,ws[k]? =some (some w)/\Nt.fh w):gf ⟨some (ak N ps ws),none⟩ j
 |run {N:Nat} {ps:List cJ} {ws:List (Option dX)} {r:dr} {i j:Nat} (A:fE N ps ws) (NO:im (ak N ps ws)) (WO:∀k,k<ps.length->dg (ps.getD k ae).kind=true->∃w,ws[k]? =some (some w)/\Nt.fh w) (B:jL N ps r i) (hi:i<=100*j):gf ⟨some (ak N ps ws),some r⟩ j
def gf.up{s:bX}{j:Nat}(h:gf s j):gf s (j+1):=by
 cases h with
 |new=>exact .new
 |net A a b=>exact .net A a b
 |run A a b c d=>exact .run A a b c ⋯
def JP{s:bX}{j:Nat}(h:gf s j)(net a:ao):gf (lG s net a).1 (j+1):=by
 unfold lG;by_cases b:ia net=false
 ·rw[Vh b];exact h.up
 ·rw[Vg b];have k:ia net=true:=by simpa using b
  obtain⟨m,g,P⟩:=EW k;have i:net.getD 0 0=((net.getD 0 0).toNat:Int):=g.symm;generalize (net.getD 0 0).toNat=N at*;rw[i];by_cases e:0<(hZ N (bC net)).length
  ·rw[Vh e];exact h.up
  ·rw[Vg e];have f:hZ N (bC net)=[]:=Xi ⋯;by_cases c:(bN a (bC net) 0).length<(bC net).length\/fq (bN a (bC net) 0)<(a.length:Nat)
   ·rw[Vh c];exact h.up
   ·rw[Vg c];obtain⟨n,o,p,q,l⟩:=wW a (bC net) 0 0 P.W ⋯;have d:(bN a (bC net) 0).length=(bC net).length:=by lia
    have A:=Ej P f d (l d);exact .net A (OL P f A) (AS a (bC net) 0 d)
def SW{s:bX}{j:Nat}(h:gf s j){rule b a bits:Int}(t:0<=rule)(b0:0<=bits):tX s (rule,b,a,bits)/\gf (j8 s rule b a bits).1 (j+1):=by
 have p:∀{N:Nat}{ps:bh}{ws:c_}{r:Option dr},fE N ps ws->im (ak N ps ws)->(∀k,k<ps.length->dg (ps.getD k ae).kind=true->∃w,ws[k]? =some (some w)/\Nt.fh w)->gf ⟨some (ak N ps ws),r⟩ j->tX ⟨some (ak N ps ws),r⟩ (rule,b,a,bits)/\gf (j8 ⟨some (ak N ps ws),r⟩ rule b a bits).1 (j+1):=by
  intro N ps ws r A d e o;have l:¬(1<rule\/64<bits\/gI b a=false)->∀m,li (ak N ps ws)=some m->rb (ak N ps ws) rule (b,a) bits m/\jL N ps ⟨rule,(b,a),ga bits,0,m,fc (ak N ps ws) m.aE (ga bits)⟩ 0:=λc m g=>by
   have f:gI b a=true:=by cases q:gI b a with
    |true=>rfl
    |false=>exact absurd (.inr (.inr q)) c
   unfold gI at f;simp only[Vt,Vp] at f;exact SV A d e ⋯ ⟨⟨f.1,f.2.1⟩,f.2.2.1,f.2.2.2⟩ ⟨b0,⋯⟩ g
  refine⟨⟨⟨t,b0⟩,λn i=>?_⟩,?_⟩
  ·cases i;exact⟨QT A d e,λc m g=>(l c m g).1⟩
  ·unfold j8;simp only;by_cases c:1<rule\/64<bits\/gI b a=false
   ·rw[Vh c];exact o.up
   ·rw[Vg c];cases g:li (ak N ps ws) with
    |none=>exact o.up
    |some m=>exact .run A d e (l c m g).2 ⋯
 cases h with
 |new=>exact⟨⟨⟨t,b0⟩,λn i=>by cases i⟩,.new⟩
 |net A d e=>exact p A d e (.net A d e)
 |run A d e u v=>exact p A d e (.run A d e u v)
def SY{s:bX}{j:Nat}(h:gf s j)(m:j<100){k:Int}(f:0<=k):tY s k/\gf (lW s k).1 (j+1):=by
 cases h with
 |new=>exact⟨⟨f,λ_ n r g=>by cases g⟩,.new⟩
 |net A a b=>exact⟨⟨f,λ_ n r _ e=>by cases e⟩,.net A a b⟩
 | @run N ps ws r i _ A a b d l=>
  refine⟨S6 A a b rfl rfl d f ⋯,?_⟩;unfold lW;simp only;by_cases c:100<k
  ·rw[Vh c];exact .run A a b d ⋯
  ·rw[Vg c];obtain⟨o,g,e⟩:=Bh A a b k.toNat d ⋯;exact .run A a b e ⋯
def OY{s:bX}{j:Nat}(h:gf s j)(m:j<100){c k:Int}(b:0<=c)(a:0<=k):tQ s (c,k):=by
 cases h with
 |new=>exact⟨b,a,λn r g=>by cases g⟩
 |net A e f=>exact⟨b,a,λn r _ i=>by cases i⟩
 |run A e f d l=>exact O0 A rfl rfl d b a ⋯
def Qe{s:bX}{j:Nat}(h:gf s j){k:Int}(a:0<=k):tS s k:=by
 cases h with
 |new=>exact⟨a,λn r e=>by cases e⟩
 |net A c d=>exact⟨a,λn r _ f=>by cases f⟩
 |run A c d b g=>exact Qg A rfl rfl b a
def NN{s:bX}{j:Nat}(h:gf s j){k:Int}(a:0<=k):tN s k:=by
 cases h with
 |new=>exact⟨a,λn r e=>by cases e⟩
 |net A c d=>exact⟨a,λn r _ f=>by cases f⟩
 |run A c d b g=>exact NP A rfl rfl b a
def Kp{s:bX}{j:Nat}(h:gf s j)(d:j<100){c:a8}(a:WhCNeutral.asked1 c=true):tI s c/\gf (dw s c).1 (j+1):=by
 refine xF (M:=λc=>tI s c/\gf (dw s c).1 (j+1)) (λn w a=>?_) (λr p q b a=>?_) (λn a=>?_) (λw k a=>?_) (λk a=>?_) (λk a=>?_) a
 ·simp only[WhCNeutral.long,Vt,Vp] at a;exact⟨⟨a.1.1,a.2.1⟩,JP h n w⟩
 ·simp only[WhCNeutral.natural,Vt,Vp] at a;exact SW h a.1.1 a.2.2.2.2.2.1
 ·simp only[WhCNeutral.natural,Vt,Vp] at a;exact SY h d a.1
 ·simp only[WhCNeutral.natural,Vt,Vp] at a;exact⟨OY h d a.1.1 a.2.1,h.up⟩
 ·simp only[WhCNeutral.natural,Vt,Vp] at a;exact⟨Qe h a.1,h.up⟩
 ·simp only[WhCNeutral.natural,Vt,Vp] at a;exact⟨NN h a.1,h.up⟩
theorem Bk:∀(a:List a8){s:bX}{j:Nat},gf s j->j+a.length<=100->(∀c,c∈a->WhCNeutral.asked1 c=true)->qO s a
 |[],_,_,_,_,_=>trivial
 |c::a,s,j,h,f,b=>by rw[Vu] at f;obtain⟨d,e⟩:=Kp h ⋯ (b c (by simp));exact⟨d,Bk a e ⋯ λx g=>b x (by simp[g])⟩
end Nt.Mt
namespace L2
open PySem PySem.Spec PyProof.Rows
open PySem.W (WData Codec OpenSpec Well WellAll ReadsW ReadsAllW)
mutual
inductive Dw(K:Frag)(H:Hp):V->WData->Prop
 |aO:Dw K H .aO .none
 |bl (b:Bool):Dw K H (.bl b) (.bool b)
 |int (i:Int):Dw K H (.int i) (.int i)
 |str (x:Str):Dw K H (.str x) (.str x)
 |iN (b:Array UInt8):Dw K H (.iN b) (.bytes b.toList)
 |aq {a:Addr} {xs:List V} {ds:List WData}:aT K H a xs->kb K H xs ds->Dw K H (.ref a) (.list ds)
 |aN {a:Addr} {xs:List V} {ds:List WData}:bi K H a xs->kb K H xs ds->Dw K H (.ref a) (.tuple ds)
inductive kb(K:Frag)(H:Hp):List V->List WData->Prop
 |nil:kb K H [] []
 |cons {v:V} {vs:List V} {d:WData} {ds:List WData}:Dw K H v d->kb K H vs ds->kb K H (v::vs) (d::ds)
end
theorem Ch{K:Frag}{H:Hp}:∀a:ao,kb K H (a.map V.int) (a.map WData.int)
 |[]=>.nil
 |n::r=>.cons (.int n) (Ch r)
theorem Dq{K:Frag}{H:Hp}:∀(a:ao)(xs:aQ),kb K H xs (a.map WData.int)->xs=a.map V.int
 |[],xs,h=>by cases h;rfl
 |n::r,xs,h=>by
  cases h with
  |cons b c=>cases b;rw[Dq r _ c]<;>rfl
section
variable{P:Program}{w:World}{K:Frag}{H:Hp}{h:Heap}{R:WRecords}{cl:Str->Option Addr}
def SO{a:Addr}{xs:aQ}(i:dq P w H h)(d:K.In h)(q:aT K H a xs):∃(b:bD)(o:Obj)(n:Nat),bH xs b/\h.get? a=some o/\o.cls=.type "list"/\o.data=.seq b.toArray n:=by
 rcases q with q|⟨o,b,n,e,f,_,g,_,c⟩
 ·obtain⟨_,b,n,c,e⟩:=(show ed P w H h a (.aq xs) from q.ok i)
  exact⟨b,_,n,c,e,rfl,rfl⟩
 ·exact⟨b.toList,o,n,c,d _ _ e,f,by simp[g]⟩
def SQ{a:Addr}{xs:aQ}(i:dq P w H h)(g:K.In h)(q:bi K H a xs):∃(b:bD)(o:Obj)(n:Nat),bH xs b/\h.get? a=some o/\o.cls=.type "tuple"/\o.data=.seq b.toArray n:=by
 rcases q with q|⟨o,b,n,e,c,d,_,f⟩
 ·obtain⟨_,b,f,o,e,c,n,d⟩:=(show ed P w H h a (.aN xs) from q.ok i)
  exact⟨b,o,n,f,e,c,d⟩
 ·exact⟨b.toList,o,n,f,g _ _ e,c,by simp[d]⟩
mutual
theorem Dw.oS(aK:dq P w H h)(KX:K.In h):∀(d:WData)(v:V)(u:Value),Dw K H v d->bM v u->∃as,ReadsW R cl h u d as
 | .none,_,_,x,r=>by
  cases x
  cases r
  exact⟨_,ReadsW.none⟩
 | .bool b,_,_,x,r=>by
  cases x
  cases r
  exact⟨_,ReadsW.bool b⟩
 | .int i,_,_,x,r=>by
  cases x
  obtain⟨t,rfl⟩:=r
  exact⟨_,ReadsW.int i t⟩
 | .str s,_,_,x,r=>by
  cases x
  obtain⟨t,rfl⟩:=r
  exact⟨_,ReadsW.str s t⟩
 | .bytes b,_,_,x,r=>by
  cases x
  obtain⟨t,rfl⟩:=r
  exact⟨_,ReadsW.bytes _ t⟩
 | .list ds,_,_,x,r=>by
  cases x with
  |aq hs ha=>
   cases r
   obtain⟨its,o,n,rv,ho,hc,hd⟩:=SO aK KX hs
   obtain⟨as,hr⟩:=Dw.oT aK KX ds _ its ha rv
   exact⟨_,ReadsW.list ho hc hd hr⟩
 | .tuple ds,_,_,x,r=>by
  cases x with
  |aN hs ha=>
   cases r
   obtain⟨its,o,n,rv,ho,hc,hd⟩:=SQ aK KX hs
   obtain⟨as,hr⟩:=Dw.oT aK KX ds _ its ha rv
   exact⟨_,ReadsW.tuple ho hc hd hr⟩
 | .float _,_,_,x,_=>by cases x
 | .dict _,_,_,x,_=>by cases x
 | .bytearray _,_,_,x,_=>by cases x
 | .set _,_,_,x,_=>by cases x
 | .frozenset _,_,_,x,_=>by cases x
 | .obj _ _,_,_,x,_=>by cases x
theorem Dw.oT(aK:dq P w H h)(KX:K.In h):∀(ds:List WData)(vs:List V)(us:List Value),kb K H vs ds->bH vs us->∃as,ReadsAllW R cl h us ds as
 |[],_,_,x,r=>by
  cases x
  cases r
  exact⟨_,ReadsAllW.nil⟩
 |d::ds,_,_,x,r=>by
  cases x with
  |cons h1 h2=>
   cases r with
   |cons r1 r2=>
    obtain⟨as,q1⟩:=Dw.oS aK KX d _ _ h1 r1
    obtain⟨bs,q2⟩:=Dw.oT aK KX ds _ _ h2 r2
    exact⟨_,ReadsAllW.cons q1 q2⟩
end
end
mutual
def jB:WData->Bool
 | .none=>true
 | .bool _=>true
 | .int _=>true
 | .str _=>true
 | .bytes _=>true
 | .list xs=>kG xs
 | .tuple xs=>kG xs
 |_=>false
def kG:List WData->Bool
 |[]=>true
 |x::r=>jB x&&kG r
end
theorem E9{b:Type}{f:b->WData}(h:∀a,jB (f a)=true):∀l:List b,kG (l.map f)=true
 |[]=>rfl
 |x::r=>by show(jB (f x)&&kG (r.map f))=true;rw[h x,E9 h r]<;>rfl
theorem nM:∀(c:Codec)(a:c.denote),jB (c.enc a)=true
 | .unit,_=>rfl
 | .bool,_=>rfl
 | .int _ _,_=>rfl
 | .nat _ _,_=>rfl
 | .u8,_=>rfl
 | .bytes _ _,_=>rfl
 | .text _ _ _ _,_=>rfl
 | .list _ _ c,a=>E9 (λx=>nM c x) a
 | .pair c d,a=>by show(jB (c.enc a.1)&&(jB (d.enc a.2)&&true))=true;rw[nM c a.1,nM d a.2]<;>rfl
 | .triple c d e,a=>by show(jB (c.enc a.1)&&(jB (d.enc a.2.1)&&(jB (e.enc a.2.2)&&true)))=true;rw[nM c a.1,nM d a.2.1,nM e a.2.2]<;>rfl
 | .option c,none=>rfl
 | .option c,some x=>nM c x
theorem E_:∀(b:List Codec)(a:Codec.denoteAll b),kG (Codec.encAll b a)=true
 |[],_=>rfl
 |c::b,a=>by show(jB (c.enc a.1)&&kG (Codec.encAll b a.2))=true;rw[nM c a.1,E_ b a.2]<;>rfl
theorem AT:∀{xs:List WData}{d:WData},d∈xs->d.weight<=WData.weightAll xs
 |[],d,h=>absurd h (by simp)
 |x::r,d,h=>by
  show d.weight<=x.weight+1+WData.weightAll r;rcases Vo.mp h with e|m
  ·rw[e]
   lia
  ·have a:=AT m
   lia
noncomputable def iF:Value->V
 | .none=>.aO
 | .bool b=>.bl b
 | .int i _=>.int i
 | .str x _=>.str x
 | .bytes b _=>.iN b
 | .ref a=>.ref a
 |_=>.aO
def jJ(A:bL):Value->Prop
 | .none=>True
 | .bool _=>True
 | .int _ _=>True
 | .str _ _=>True
 | .bytes _ _=>True
 | .ref a=>a∈A
 |_=>False
def jJ.aF{A c:bL}(h:∀a∈A,a∈c):∀{u:Value},jJ A u->jJ c u:=λ{u} x=>by
 cases u with
 |ref a=>exact h a x
 |none=>trivial
 |bool b=>trivial
 |int i t=>trivial
 |str s t=>trivial
 |bytes b t=>trivial
 |_=>exact False.elim x
def Rn{A:bL}{u:Value}(x:jJ A u):bM (iF u) u:=by
 cases u with
 |ref a=>rfl
 |none=>rfl
 |bool b=>rfl
 |int i t=>exact⟨t,rfl⟩
 |str s t=>exact⟨t,rfl⟩
 |bytes b t=>exact⟨t,rfl⟩
 |_=>exact False.elim x
theorem qL{A:bL}:∀{vs:bD},(∀u∈vs,jJ A u)->bH (vs.map iF) vs
 |[],_=>.nil
 |u::r,h=>.cons (Rn (h u (VY ..))) (qL λx a=>h x (VI _ a))
def j'(h:Heap)(A:bL)(a:Addr):Prop:=∃vs:bD,vs.length<=sizeLine/\(∀u∈vs,jJ A u)/\
 (h.get? a=some {cls:=.type "list",data:=.seq vs.toArray}\/h.get? a=some {cls:=.type "tuple",data:=.seq vs.toArray})
def j'.aF{h:Heap}{A b:bL}{a:Addr}(k:∀a∈A,a∈b)(x:j' h A a):j' h b a:=by obtain⟨vs,c,d,e⟩:=x;exact⟨vs,c,λu f=>(d u f).aF k,e⟩
theorem wX{P:Params}{h:Heap}:∀{vs:bD}{a:List WData},WellAll P h vs a->vs.length=a.length
 |_,_,.nil=>rfl
 |_,_,.cons _ b=>by show _+1=_+1;rw[wX b]
def Jp{P:Params}{h:Heap}{v:Value}{b:List WData}(x:Well P h v (.list b)):∃(a:Addr)(vs:bD),v=.ref a/\h.get? a=some {cls:=.type "list",data:=.seq vs.toArray}/\WellAll P h vs b:=by
 cases x with
 |list d c=>exact⟨_,_,rfl,d,c⟩
def Jq{P:Params}{h:Heap}{v:Value}{b:List WData}(x:Well P h v (.tuple b)):∃(a:Addr)(vs:bD),v=.ref a/\h.get? a=some {cls:=.type "tuple",data:=.seq vs.toArray}/\WellAll P h vs b:=by
 cases x with
 |tuple d c=>exact⟨_,_,rfl,d,c⟩
def Jo{P:Params}{h:Heap}{us:bD}{d:WData}{c:List WData}(x:WellAll P h us (d::c)):∃(v:Value)(vs:bD),us=v::vs/\Well P h v d/\WellAll P h vs c:=by
 cases x with
 |cons a b=>exact⟨_,_,rfl,a,b⟩
def DI{n:Nat}(h:n<=1048576):n<=sizeLine:=Vy h ∅
section
variable{P:Params}{h:Heap}
mutual
theorem JH:∀(d:WData)(v:Value),Well P h v d->jB d=true->d.weight<=1048576->∃A:List Addr,jJ A v/\∀a∈A,j' h A a
 | .none,_,x,_,_=>by
  cases x
  exact⟨[],trivial,λa m=>absurd m (by simp)⟩
 | .bool b,_,x,_,_=>by
  cases x
  exact⟨[],trivial,λa m=>absurd m (by simp)⟩
 | .int i,_,x,_,_=>by
  cases x
  exact⟨[],trivial,λa m=>absurd m (by simp)⟩
 | .str s,_,x,_,_=>by
  cases x
  exact⟨[],trivial,λa m=>absurd m (by simp)⟩
 | .bytes b,_,x,_,_=>by
  cases x
  exact⟨[],trivial,λa m=>absurd m (by simp)⟩
 | .list ds,_,x,p,z=>by
  obtain⟨a,vs,rfl,ho,hall⟩:=Jp x
  have z2:WData.weightAll ds<=1048576:=z
  obtain⟨A,h1,h2⟩:=ug ds _ hall p λd hd=>Vy (AT hd) z2
  have k:∀b∈A,b∈a::A:=λb hb=>VI _ hb
  refine⟨a::A,VY ..,λb hb=>?_⟩
  rcases Vo.mp hb with e|m
  ·rw[e]
   exact⟨vs,DI (by rw[wX hall];exact Vy (length_le_weightAllW ds) z2),λu hu=>(h1 u hu).aF k,.inl ho⟩
  ·exact(h2 b m).aF k
 | .tuple ds,_,x,p,z=>by
  obtain⟨a,vs,rfl,ho,hall⟩:=Jq x
  have z2:WData.weightAll ds<=1048576:=z
  obtain⟨A,h1,h2⟩:=ug ds _ hall p λd hd=>Vy (AT hd) z2
  have k:∀b∈A,b∈a::A:=λb hb=>VI _ hb
  refine⟨a::A,VY ..,λb hb=>?_⟩
  rcases Vo.mp hb with e|m
  ·rw[e]
   exact⟨vs,DI (by rw[wX hall];exact Vy (length_le_weightAllW ds) z2),λu hu=>(h1 u hu).aF k,.inr ho⟩
  ·exact(h2 b m).aF k
 | .float _,_,_,p,_=>Bool.noConfusion (show false=true from p)
 | .dict _,_,_,p,_=>Bool.noConfusion (show false=true from p)
 | .bytearray _,_,_,p,_=>Bool.noConfusion (show false=true from p)
 | .set _,_,_,p,_=>Bool.noConfusion (show false=true from p)
 | .frozenset _,_,_,p,_=>Bool.noConfusion (show false=true from p)
 | .obj _ _,_,_,p,_=>Bool.noConfusion (show false=true from p)
theorem ug:∀(ds:List WData)(vs:List Value),WellAll P h vs ds->kG ds=true->(∀d∈ds,d.weight<=1048576)->∃A:List Addr,(∀u∈vs,jJ A u)/\∀a∈A,j' h A a
 |[],_,x,_,_=>by
  cases x
  exact⟨[],λu m=>absurd m (by simp),λa m=>absurd m (by simp)⟩
 |d::ds,_,x,p,z=>by
  obtain⟨v,vs,rfl,x1,x2⟩:=Jo x
  have q:jB d=true/\kG ds=true:=Bool.and_eq_true_iff.mp p
  obtain⟨A,a1,a2⟩:=JH d v x1 q.1 (z d (VY ..))
  obtain⟨B,b1,b2⟩:=ug ds vs x2 q.2 λe he=>z e (VI _ he)
  have kA:∀b∈A,b∈A++B:=λb hb=>VQ.mpr (.inl hb)
  have kB:∀b∈B,b∈A++B:=λb hb=>VQ.mpr (.inr hb)
  refine⟨A++B,λu hu=>?_,λb hb=>?_⟩
  ·rcases Vo.mp hu with e|m
   ·rw[e]
    exact a1.aF kA
   ·exact(b1 u m).aF kB
  ·rcases VQ.mp hb with m|m
   ·exact(a2 b m).aF kA
   ·exact(b2 b m).aF kB
end
end
def uW(o:Obj):Option HO:=match o.data with
 | .seq vs _=>if (o.cls==Value.type "list")=true then some (.gT o (.aq (vs.toList.map iF))) else some (.gT o (.aN (vs.toList.map iF)))
 |_=>none
def gh(K:Frag)(h:Heap)(A:bL):Hp:=λb=>if b∈A then (if (K.lookup b).isNone=true then (h.get? b).bind uW else none) else none
def qW(H:Hp):Prop:=∀b,H b=none\/∃o u,H b=some (.gT o u)
def Dg(vs:bD):uW {cls:=.type "list",data:=.seq vs.toArray}=some (.gT {cls:=.type "list",data:=.seq vs.toArray} (.aq (vs.map iF))):=by show(if (Value.type "list"==Value.type "list")=true then some (HO.gT {cls:=.type "list",data:=.seq vs.toArray} (.aq (vs.toArray.toList.map iF))) else some (HO.gT {cls:=.type "list",data:=.seq vs.toArray} (.aN (vs.toArray.toList.map iF))))=_;rw[Vh (beq_self_eq_true _)]
def Dh(vs:bD):uW {cls:=.type "tuple",data:=.seq vs.toArray}=some (.gT {cls:=.type "tuple",data:=.seq vs.toArray} (.aN (vs.map iF))):=by show(if (Value.type "tuple"==Value.type "list")=true then some (HO.gT {cls:=.type "tuple",data:=.seq vs.toArray} (.aq (vs.toArray.toList.map iF))) else some (HO.gT {cls:=.type "tuple",data:=.seq vs.toArray} (.aN (vs.toArray.toList.map iF))))=_;rw[Vg ∅]
section
variable{P:Program}{w:World}{K:Frag}{h:Heap}{A:bL}
def uh{b:Addr}{o:Obj}(a:b∈A)(c:K.lookup b=none)(e:h.get? b=some o):gh K h A b=uW o:=by unfold gh;rw[Vh a,c,Vh (show(none:Option Obj).isNone=true from rfl),e]<;>rfl
def O1{b:Addr}{u:HO}(q:gh K h A b=some u):b∈A/\K.lookup b=none:=by
 unfold gh at q;by_cases a:b∈A
 ·rw[Vh a] at q;cases c:K.lookup b with
  |none=>exact⟨a,rfl⟩
  |some o=>rw[c,Vg (by simp)] at q;cases q
 ·rw[Vg a] at q;cases q
def rp(f:∀a∈A,j' h A a){b:Addr}{u:HO}(q:gh K h A b=some u):K.lookup b=none/\∃vs:bD,vs.length<=sizeLine/\(∀u∈vs,jJ A u)/\
  ((h.get? b=some {cls:=.type "list",data:=.seq vs.toArray}/\u=.gT {cls:=.type "list",data:=.seq vs.toArray} (.aq (vs.map iF)))\/
   (h.get? b=some {cls:=.type "tuple",data:=.seq vs.toArray}/\u=.gT {cls:=.type "tuple",data:=.seq vs.toArray} (.aN (vs.map iF)))):=by
 obtain⟨c,d⟩:=O1 q;obtain⟨vs,g,i,j⟩:=f b c;refine⟨d,vs,g,i,?_⟩;rcases j with e|e
 ·rw[uh c d e,Dg] at q;exact .inl ⟨e,(Vr q).symm⟩
 ·rw[uh c d e,Dh] at q;exact .inr ⟨e,(Vr q).symm⟩
def JJ(c:∀a∈A,j' h A a):qW (gh K h A):=λb=>by
 cases q:gh K h A b with
 |none=>exact .inl rfl
 |some u=>
  obtain⟨_,vs,_,_,⟨_,e⟩|⟨_,e⟩⟩:=rp c q
  ·exact .inr ⟨_,_,by rw[e]⟩
  ·exact .inr ⟨_,_,by rw[e]⟩
def JI(f:∀a∈A,j' h A a):dq P w (gh K h A) h:=λb u q=>by
 obtain⟨_,vs,c,d,⟨e,rfl⟩|⟨e,rfl⟩⟩:=rp f q
 ·exact⟨e,by rw[Vn];exact c,vs,_,qL d,e⟩
 ·exact⟨e,by rw[Vn];exact c,vs,qL d,_,e,rfl,_,rfl⟩
def wC{c a:Value}{vs us:bD}(e:(some {cls:=c,data:=.seq vs.toArray}:Option Obj)=some {cls:=a,data:=.seq us.toArray}):c=a/\vs=us:=by have b:=Vr e;have d:c=a:=Wk Obj.cls b;have f:Data.seq vs.toArray=Data.seq us.toArray:=Wk Obj.data b;injection f with e4;refine⟨d,?_⟩;have g:=Wk Array.toList e4;simpa using g
def JK(g:K.In h)(i:∀a∈A,j' h A a){a:Addr}{vs:bD}(f:a∈A)(e:h.get? a=some {cls:=.type "list",data:=.seq vs.toArray}):(∀u∈vs,jJ A u)/\aT K (gh K h A) a (vs.map iF):=by
 obtain⟨us,j,d,k⟩:=i a f;have l:us=vs:=by
  rcases k with q|q
  ·rw[e] at q;exact(wC q).2.symm
  ·rw[e] at q;exact absurd (Value.type.inj (wC q).1) ∅
 subst l;refine⟨d,?_⟩;cases b:K.lookup a with
 |none=>exact .inl (.inr ⟨_,by rw[uh f b e,Dg]⟩)
 |some o=>have c:=g a o b;rw[e] at c;obtain rfl:=Vr c;exact .inr ⟨_,us.toArray,_,b,rfl,rfl,rfl,by rw[VA];exact j,by simpa using qL d⟩
def JL(g:K.In h)(i:∀a∈A,j' h A a){a:Addr}{vs:bD}(f:a∈A)(e:h.get? a=some {cls:=.type "tuple",data:=.seq vs.toArray}):(∀u∈vs,jJ A u)/\bi K (gh K h A) a (vs.map iF):=by
 obtain⟨us,j,d,k⟩:=i a f;have l:us=vs:=by
  rcases k with q|q
  ·rw[e] at q;exact absurd (Value.type.inj (wC q).1) ∅
  ·rw[e] at q;exact(wC q).2.symm
 subst l;refine⟨d,?_⟩;cases b:K.lookup a with
 |none=>exact .inl (.inr ⟨_,by rw[uh f b e,Dh]⟩)
 |some o=>have c:=g a o b;rw[e] at c;obtain rfl:=Vr c;exact .inr ⟨_,us.toArray,_,b,rfl,rfl,by rw[VA];exact j,by simpa using qL d⟩
mutual
theorem MF{Pm:Params}(KX:K.In h)(ar:∀a∈A,j' h A a):∀(d:WData)(v:Value),Well Pm h v d->jB d=true->jJ A v->Dw K (gh K h A) (iF v) d
 | .none,_,x,_,_=>by
  cases x
  exact .aO
 | .bool b,_,x,_,_=>by
  cases x
  exact .bl b
 | .int i,_,x,_,_=>by
  cases x
  exact .int i
 | .str s,_,x,_,_=>by
  cases x
  exact .str s
 | .bytes b,_,x,_,_=>by
  cases x
  have z:=Dw.iN (K:=K) (H:=gh K h A) b.toArray
  exact z
 | .list ds,_,x,p,hu=>by
  obtain⟨a,vs,rfl,ho,hall⟩:=Jp x
  obtain⟨h2,hs⟩:=JK KX ar hu ho
  exact .aq hs (uH KX ar ds _ hall p h2)
 | .tuple ds,_,x,p,hu=>by
  obtain⟨a,vs,rfl,ho,hall⟩:=Jq x
  obtain⟨h2,hs⟩:=JL KX ar hu ho
  exact .aN hs (uH KX ar ds _ hall p h2)
 | .float _,_,_,p,_=>Bool.noConfusion (show false=true from p)
 | .dict _,_,_,p,_=>Bool.noConfusion (show false=true from p)
 | .bytearray _,_,_,p,_=>Bool.noConfusion (show false=true from p)
 | .set _,_,_,p,_=>Bool.noConfusion (show false=true from p)
 | .frozenset _,_,_,p,_=>Bool.noConfusion (show false=true from p)
 | .obj _ _,_,_,p,_=>Bool.noConfusion (show false=true from p)
theorem uH{Pm:Params}(KX:K.In h)(ar:∀a∈A,j' h A a):∀(ds:List WData)(vs:List Value),WellAll Pm h vs ds->kG ds=true->(∀u∈vs,jJ A u)->kb K (gh K h A) (vs.map iF) ds
 |[],_,x,_,_=>by
  cases x
  exact .nil
 |d::ds,_,x,p,hu=>by
  obtain⟨v,vs,rfl,x1,x2⟩:=Jo x
  have q:jB d=true/\kG ds=true:=Bool.and_eq_true_iff.mp p
  exact .cons (MF KX ar d v x1 q.1 (hu _ (VY ..))) (uH KX ar ds vs x2 q.2 λu m=>hu u (VI _ m))
end
end
def SN{P:Program}{w:World}{K:Frag}{t N:df}{CX:jG}{k:Nat}{T:Addr}{V:FuncData}{ps:cR}{sp:Sp}{f:Shared}{i:bD}{l:List WData}{R:WRecords}{cl:Str->Option Addr}{d0:WData}
  (D:K.In f.heap)(aa:f.heap.Ns mainGlobals t)(J:f.heap.Ns builtinsNs N)(au:∀x:Str,x≠"__name__"->N x=bootBuiltins x)(az:f.heap.NoLimit)(aC:f.heap.NoSeer)(aw:f.gens= #[])
  (M:WellAll w.params f.heap i l)(ad:kG l=true)(aE:∀d∈l,d.weight<=1048576)(aA:db k callerA)
  (ai:∀F:Heap,K.In F->F.Ns mainGlobals t->gw P w K t F CX k T V ps sp)(av:∀(s:Shared)(us:bD),us.length=ps.length->BindsTo s V ⟨us,[]⟩ (ps.zip us))(ay:l.length=ps.length)
  (aD:∀(H:Hp)(xs:aQ),qW H->kb K H xs l->sp xs H (λv Q=>Dw K Q v d0) λ_ _ _=>False)
  (aq:∀H e g,CX [] H f (λ_ _ _=>False) e g->False):
  codeAny (model P w) callerA (.call (.ref T) ⟨i,[]⟩) (λr g=>∃u E,r=.ok (.ret u)/\ReadsW R cl g.heap u d0 E/\OldK f.heap g.heap/\g.os=f.os/\AllBare g.gens) f:=by
 obtain⟨A,ab,z⟩:=ug l i M ad aE;have I:qW (gh K f.heap A):=JJ z;have L:dq P w (gh K f.heap A) f.heap:=JI z;have Y:=uH D z l i M ad ab;have as:=qL ab;have W:∀b u,gh K f.heap A b=some u->K.lookup b=none:=λb u q=>(rp z q).1;have ae:∀{b:Addr}{o:Obj}{C:Array DictEntry}{B:Nat},f.heap.get? b=some o->o.data=.dict C B->gh K f.heap A b=none:=λ{b o C B} e d=>by
  cases q:gh K f.heap A b with
  |none=>rfl
  |some u=>
   obtain⟨_,vs,_,_,⟨h,_⟩|⟨h,_⟩⟩:=rp z q
   ·rw[h] at e;cases e;have d':Data.seq vs.toArray _=Data.dict C B:=d;cases d'
   ·rw[h] at e;cases e;have d':Data.seq vs.toArray _=Data.dict C B:=d;cases d'
 have af:∀{b:Addr}{o:Obj},f.heap.get? b=some o->o.cls=.type "module"->gh K f.heap A b=none:=λ{b o} e d=>by
  cases q:gh K f.heap A b with
  |none=>rfl
  |some u=>
   obtain⟨_,vs,_,_,⟨h,_⟩|⟨h,_⟩⟩:=rp z q
   ·rw[h] at e;cases e;exact absurd (Value.type.inj d) ∅
   ·rw[h] at e;cases e;exact absurd (Value.type.inj d) ∅
 generalize gh K f.heap A=H at I L Y W ae af;have G:∀{b:Addr}{o:Obj},f.heap.get? b=some o->H b=none->(lN f.heap H).get? b=some o:=λe n=>NC e n;have j:∀{b:Addr}{m:df},f.heap.Ns b m->(lN f.heap H).Ns b m:=λ{b m} ⟨o,C,B,e,d,r⟩=>⟨o,C,B,G e (ae e d),d,r⟩
 have aH:f.heap.NoSeer->(lN f.heap H).NoSeer:=λx=>⟨let ⟨p,a,b⟩:=x.statics;⟨p,j a,b⟩,let ⟨p,a,b⟩:=x.mods;⟨p,j a,b⟩,let ⟨p,a,b⟩:=x.imp;⟨p,j a,b⟩,
  let ⟨t,al,O,a,b,c,d,e⟩:=x.main;⟨t,al,O,j a,b,G c (af c d),d,e⟩⟩
 have aF:∀b o,K.lookup b=some o->H b=none:=λb o e=>by
  cases q:H b with
  |none=>rfl
  |some u=>rw[W b u q] at e;cases e
 have X:K.In (lN f.heap H):=λb o e=>G (D b o e) (aF b o e);have ar:Mod K t (lN f.heap H):=⟨X,j aa,⟨N,j J,au⟩,let ⟨p,ao,ap⟩:=az;⟨p,j ao,ap⟩,aH aC⟩
 have am:og P w K t (lN f.heap H) callerA [] f H:=⟨rfl,ar,λb o e=>O2 e,Nat.le_of_eq (ND _ _),trivial,λb J=>absurd (show b∈([]:bL) from J) (by simp),L,.of_eq aw⟩
 have ax:i.length=ps.length:=by rw[wX M];exact ay
 refine codeAny_mono ((ai _ X (j aa)).run callerA [] f H ⟨i,[]⟩ i (i.map iF) _ _ aA am (av f i ax) as (aD H _ I Y)) λr g x=>?_;cases r with
 |error e=>exact(aq H e g x).elim
 |ok an=>
  cases an with
  |next=>exact False.elim x
  |brk=>exact False.elim x
  |cont=>exact False.elim x
  |ret u=>
   obtain⟨v,Q,aG,ak,ah,ac,r',q⟩:=x;have kept:∀b o,f.heap.get? b=some o->g.heap.get? b=some o:=λb o e=>by
    cases ag:H b with
    |none=>exact ah.keep b o e ag (by intro y;exact absurd (show b∈([]:bL) from y) (by simp)) (by simp)
    |some aJ=>
     rcases I b with y|⟨O,aK,y⟩
     ·rw[ag] at y;cases y
     ·have aI:=ah.mx b O _ y;obtain⟨S,_⟩:=L b _ y;obtain⟨h,_⟩:=ac b _ aI;rw[e] at S;cases S;exact h
   have aj:K.In g.heap:=λb o e=>kept b o (D b o e);obtain⟨E,aB⟩:=Dw.oS (R:=R) (cl:=cl) ac aj d0 v u q r';exact⟨u,E,rfl,aB,OldK.of_keep kept,aG,ak⟩
def N2{a:List WData}(h:WData.layableAll a=true):∀d∈a,d.weight<=1048576:=λd b=>(layableW_iff.mp (VO.mp h d b)).2.2
theorem Cm:∀(b:List Codec)(a:Codec.denoteAll b),(Codec.encAll b a).length=b.length
 |[],_=>rfl
 |c::b,a=>by show(Codec.encAll b a.2).length+1=b.length+1;rw[Cm b a.2]
def TB{r:OpenSpec}{k:Nat}{q:Program}{aj:cR}{B:(Str->jN)->Heap->Prop}{l:World->Heap->Prop}{d:DefRec}{K:Params->Frag}{CX:World->jG}{ps:cR}{sp:World->Sp}
  (X:importsNone q=true)(ah:r.wellSaid=true)(au:d.params.defaults=[])(aa:r.args.length=ps.length)(ae:db k callerA)
  (S:∀(w:World)(h:Heap),l w h->(K w.params).In h)
  (z:∀(w:World)(c:df)(i:Addr)(h:Heap),l w h->(K w.params).In h->h.Ns mainGlobals c->c d.name=some (.ref i)->
   ∃n:FuncData,(∀(s:Shared)(us:bD),us.length=ps.length->BindsTo s n ⟨us,[]⟩ (ps.zip us))/\
    ∀m:Heap,(K w.params).In m->m.Ns mainGlobals c->gw r.prog w (K w.params) c m (CX w) k i n ps (sp w))
  (ag:∀(w:World)(H:Hp)(xs:aQ)(a:Codec.denoteAll r.args),qW H->Codec.withinAll r.args a=true->Codec.app r.args r.asked a=true->kb (K w.params) H xs (Codec.encAll r.args a)->
   sp w xs H (λv A=>Dw (K w.params) A v (r.ret.enc (Codec.app r.args r.f a))) λ_ _ _=>False)
  (N:∀(w:World)(H:Hp)(s:Shared)(e:Value)(j:Shared),CX w [] H s (λ_ _ _=>False) e j->False):
  WalkOS q aj B l r d [] (λf vs=>PySem.call f vs):=by
 intro w ak y c ay G t i o az an ap ao kV aw as ar aq ab W args aA am ac Y ax ai av;obtain⟨a,D,E⟩:=os_pre_some ac;obtain⟨F,x⟩:=Codec.encAll_of_decAll r.args args a D;subst F;have p:=S w _ t;obtain⟨n,V,O⟩:=z w c i _ t p G.T.g ab;have af:y.heap.NoSeer:=G.T.seer X
 refine enter_call (codeAny_mono (SN (R:=[]) (cl:=classAt ak.heap) (d0:=r.ret.enc (Codec.app r.args r.f a)) p G.T.g G.T.b G.T.builtins G.T.nolimit af W ai (E_ _ _) (N2 Y) ae O V (by rw[Cm];exact aa)
  (λH xs P Q=>ag w H xs a P x E Q) λH e j=>N w H y e j) λr' j ad=>?_)
 obtain⟨u,C,rfl,I,J,L,M⟩:=ad;exact⟨.inl ⟨u,_,C,rfl,λ_=>rfl,I,(OpenSpec.post_iff ah x _ _).mpr rfl,λal=>Bool.noConfusion (show false=true from al)⟩,J,L,M⟩
def TC{r:OpenSpec}{k:Nat}{q:Program}{G:cR}{o:(Str->jN)->Heap->Prop}{c:World->Heap->Prop}{d:DefRec}{K:Params->Frag}{CX:jG}{ps:cR}{sp:Frag->Sp}
  (B:importsNone q=true)(F:r.wellSaid=true)(A:d.params.defaults=[])(C:r.args.length=ps.length)(D:db k callerA)
  (z:∀(w:World)(h:Heap),c w h->(K w.params).In h)
  (m:∀(w:World)(b:df)(j:Addr)(h:Heap),c w h->(K w.params).In h->h.Ns mainGlobals b->b d.name=some (.ref j)->
   ∃l:FuncData,(∀(s:Shared)(us:bD),us.length=ps.length->BindsTo s l ⟨us,[]⟩ (ps.zip us))/\
    ∀g:Heap,(K w.params).In g->g.Ns mainGlobals b->gw r.prog w (K w.params) b g CX k j l ps (sp (K w.params)))
  (E:∀(K:Frag)(H:Hp)(xs:aQ)(a:Codec.denoteAll r.args),qW H->Codec.withinAll r.args a=true->Codec.app r.args r.asked a=true->kb K H xs (Codec.encAll r.args a)->
   sp K xs H (λv n=>Dw K n v (r.ret.enc (Codec.app r.args r.f a))) λ_ _ _=>False)
  (y:∀(H:Hp)(s:Shared)(e:Value)(i:Shared),CX [] H s (λ_ _ _=>False) e i->False):
  WalkOS q G o c r d [] (λf vs=>PySem.call f vs):=
 TB (K:=K) (CX:=λ_=>CX) (sp:=λw=>sp (K w.params)) B F A C D z m (λw H xs a p t u x=>E (K w.params) H xs a p t u x) λ_ H s e i=>y H s e i
end L2
namespace Nt
open PySem PySem.Spec PyProof.Rows L2
section
variable{K:Frag}{mg:Str->Option Value}{h:Heap}{x qual:Str}{st:Stmt}{ps:List Str}{f C:Addr}{oc:Value}{od an:Option Addr}{jh:Array (Option Value)}{kV doc pm aI ct:Value}
theorem b0{P:List Value->Prop}(h:P []):∀us:List Value,us.length=0->P us:=λus e=>List.length_eq_zero_iff.mp e▸h
theorem bc{P:List Value->Prop}{n:Nat}(h:∀a us,us.length=n->P (a::us)):∀us:List Value,us.length=n+1->P us:=by
 intro us e;cases us with
 |nil=>cases e
 |cons a us=>exact h a us (Nat.succ.inj e)
theorem Mq(X:K.In h)(G:h.Ns mainGlobals mg)(a:PySem.W.nsIn K mainGlobals x=some (some (.ref f)))(l:K.lookup f=some ⟨oc,od,.func (fnOf x x (lJ st) (jq st) (aM st) .none kV doc pm an aI ct),jh⟩)
  (c:codeIn K aI x=true)(k:keepIn K (.ref f)=true)
  (b:∀(kV doc pm:Value)(an:Option Addr)(aI ct:Value)(us:List Value),us.length=ps.length->bindArgs (fnOf x x (lJ st) (jq st) (aM st) .none kV doc pm an aI ct) ⟨us,[]⟩=pure (ps.zip us)):Df K mg x st ps:=
 ⟨f,_,pV l c k,PySem.W.mg_of X G a,(pV l c k).mi b⟩
theorem Mx(a:findIn K (.ref C) x=some (some (.ref f)))(l:K.lookup f=some ⟨oc,od,.func (fnOf x qual (lJ st) (jq st) (aM st) .none kV doc pm an aI ct),jh⟩)
  (i:isFn K (.ref f)=true)(c:codeIn K aI qual=true)(k:keepIn K (.ref f)=true)
  (b:∀(kV doc pm:Value)(an:Option Addr)(aI ct:Value)(us:List Value),us.length=ps.length->bindArgs (fnOf x qual (lJ st) (jq st) (aM st) .none kV doc pm an aI ct) ⟨us,[]⟩=pure (ps.zip us)):Dm K C x qual st ps:=
 ⟨f,_,pV l c k,⟨a,i,k⟩,(pV l c k).mi b⟩
theorem Mr(a:findIn K (.ref C) "__init__"=some (some (.ref f)))(l:K.lookup f=some ⟨oc,od,.func (fnOf "__init__" qual (lJ st) (jq st) (aM st) .none kV doc pm an aI ct),jh⟩)
  (i:isFn K (.ref f)=true)(c:codeIn K aI qual=true)(k:keepIn K (.ref f)=true)(m:makesIn K C=true)(kc:keepIn K (.ref C)=true)
  (b:∀(kV doc pm:Value)(an:Option Addr)(aI ct:Value)(us:List Value),us.length=ps.length->bindArgs (fnOf "__init__" qual (lJ st) (jq st) (aM st) .none kV doc pm an aI ct) ⟨us,[]⟩=pure (ps.zip us)):Di K C qual st ps:=
 ⟨f,_,pV l c k,⟨m,a,i,kc⟩,(pV l c k).mi b⟩
theorem KL(X:K.In h)(G:h.Ns mainGlobals mg){i:Int}{t:Tok}(a:PySem.W.nsIn K mainGlobals x=some (some (.int i t))):cE mg x (.int i):=⟨_,PySem.W.mg_of X G a,t,rfl⟩
theorem KN(X:K.In h)(G:h.Ns mainGlobals mg)(a:PySem.W.nsIn K mainGlobals x=some (some (.ref f))):cE mg x (.ref f):=⟨_,PySem.W.mg_of X G a,rfl⟩
theorem Rt{i j:Int}{t u:Tok}{n:Nat}{od:Option Addr}{jh:Array (Option Value)}(l:K.lookup f=some ⟨.type "tuple",od,.seq #[.int i t,.int j u] n,jh⟩)(G:Hp):RF K G (.ref f) (i,j):=
 ⟨f,rfl,.inr ⟨_,_,_,l,rfl,rfl,(by show 2<=sizeLine;decide),.cons ⟨t,rfl⟩ (.cons ⟨u,rfl⟩ .nil)⟩⟩
end
theorem due{K:Frag}{H:Hp}{a:Addr}{ns:List Int}{Q:VK}{E:XK}(hs:aT K H a (ns.map V.int))(ha:PyWrwirc.answers_asked ns=true)(hq:∀v Z,Dw K Z v (.list ((PyWrwirc.answers ns).map PySem.W.WData.int))->Q v Z):tj K [.ref a] H Q E:=by obtain⟨cs,h1,h2,h3,h4⟩:=Mt.JE ha;have hl:=Mt.Jc cs ⟨none,none⟩ h2;refine⟨H,.ref a,ns,ns.length,cs,rfl,aB.refl _,⟨a,rfl,hs⟩,h1,Mt.Bk cs (j:=0) .new (by omega) h2,by omega,λZ G' v s' hv=>hq v Z ?_⟩;obtain⟨p,vs,rfl,hp,hvs⟩:=hv;rw[nF hvs] at hp;rw[h4];exact .aq (aT.of (s' _ _ hp)) (Ch _)
theorem MW{P:Program}{w:World}{K:Frag}{mg:Str->Option Value}{rf ou ua aNetwork ub t_ aLaws aRun aSimulator aReader fa:Addr}(hm:mg "answers"=some (.ref fa))(_:PySem.W.nsIn K mainGlobals "NOTHING"=some (some (.ref rf)))(_:PySem.W.nsIn K mainGlobals "ONE"=some (some (.ref ou)))(_:PySem.W.nsIn K mainGlobals "Part"=some (some (.ref ua)))(_:PySem.W.nsIn K mainGlobals "Network"=some (some (.ref aNetwork)))(_:PySem.W.nsIn K mainGlobals "Wave"=some (some (.ref ub)))(_:PySem.W.nsIn K mainGlobals "Moment"=some (some (.ref t_)))(_:PySem.W.nsIn K mainGlobals "Laws"=some (some (.ref aLaws)))(_:PySem.W.nsIn K mainGlobals "Run"=some (some (.ref aRun)))(_:PySem.W.nsIn K mainGlobals "Simulator"=some (some (.ref aSimulator)))(_:PySem.W.nsIn K mainGlobals "Reader"=some (some (.ref aReader)))(T:Tx P K mg ⟨rf,ou,ua,aNetwork,ub,t_,aLaws,aRun,aSimulator,0,aReader⟩):
  ∃fd:FuncData,(∀(s:Shared)(us:List Value),us.length=(["calls"]:List Str).length->BindsTo s fd ⟨us,[]⟩ ((["calls"]:List Str).zip us))/\∀ah:Heap,K.In ah->ah.Ns mainGlobals mg->gw P w K mg ah jl 51 fa fd ["calls"] (tj K):=by
 obtain⟨f,fd,m,b,h⟩:=Pr w T;rw[hm] at m;cases m;exact⟨fd,b,λah _ _=>h ah⟩
end Nt
end
structure PySem.W.Fast:Prop where(tw7536818632017611 tw10519044160916128666 tw3924964846665396811 tw13133450327207814428 tw5104971428860889539 tw12078158630606895757 tw13374220950461177505 tw12361007351098789665 tw8640034054091239961 tw1287340246114977191 tw1362929070869964414 tw17654507852594068118 tw11908819510057858 tw4913473748361254006 tw742910292184968650 tw17315820575001820634 tw8284084065311837610 tw1768366178339249505 tw10687189018346341426 tw10518235904397388684 tw16086683843434527564 tw2033373241364596962 tw15521007607570423129 tw12357930332596765770 tw759572930213781427 tw12416288097571057305 tw8102150023265696653 tw6630693189378602885 tw3020701485583386904 tw15533826940697080478 tw2805660981406478328 tw15700242272525650102 tw18421881626728003328 tw3207365481896399116 tw6430853908349103385 tw9861960250725525150 tw7870121691971956409 tw8313637009545222820 tw17538256413249231296 tw894792292332929178 tw10724967401605619795 tw11442040387091174328 tw11732661910534840745 tw7943993221111990316 tw6122068772576246586 tw1286528976717702399 tw16080809572080066316 tw4270973546176318453 tw15237092967931845872 tw4520246736647230096 tw15205925753164104213 tw15505837897692853907 tw13647233221326111846 tw11600270650233237832 tw8809126459250311026 tw1243188456217071767 tw11758013100475883152 tw6049283498035731028 tw12250195042624741552 tw3235836584079715839 tw7441679196268592970 tw10998631305683165694 tw15904300024093605671 tw12560869888311875047 tw15200412061947462056 tw16516587845291047339 tw17662483133924645495 tw3110365859464101419 tw2986252333111596571 tw13891485762559386235 tw7640640263918425368 tw1134966347174681079 tw10494035098606791620 tw17544684575978054002 tw3443387660823880920 tw11753838585665393861 tw13198127573568957823 tw4364677911536050796 tw12691654691774559802 tw5382991115768411556 tw12141397690624828502 tw9410940377927477369 tw12828093273407139060 tw10395310867744893145 tw2148123501504896450 tw4141723313970423610 tw12464367880406371240 tw6292957514802518746 tw10334578936887062497 tw1430723915851526089 tw730222771826688870 tw13506958901468178265 tw15699981569422068746 tw8455079576961187211 tw4398873229232494040 tw6095779718971723369 tw15319369916734524189 tw14687488845684675137 tw4002246782614544459 tw11448907824982214613 tw3736764070954643627 tw1967741298390119403 tw909086611791646324 tw1243861422449792266 tw8997056318908378944 tw16570497088646069975 tw14191766825668955999 tw11654811515033090977 tw9811521473305548307 tw1365667318742268813 tw11060121484574401527 tw3488135864041396226 tw18134264967977726355 tw15173862786842242388 tw7695512040930357042 tw1407032431947539529 tw13494873210266055093 tw6326555494684087660 tw18431671123982782817 tw15361379732029736544 tw7378124644462053293 tw14467383103904459556 tw11226024882897937021 tw7924094119743436127 tw6220197345295766040 tw10470666150431689478 tw4873432249467869927 tw7877459171336946704 tw14634378198012563600 tw14231646811595588003 tw13941788338305551232 tw1170471833771473358 tw16486256504715831206 tw4810962883387629713 tw10298044023905128322 tw17125372287682575299 tw5172555725827991338 tw1613248605849874477 tw323604751795029006 tw10461393169476622554 tw8083033531430463722 tw10533781398639778351 tw14384040256063667320 tw13105077081822041404 tw1638519546141822952 tw18015699685888746448 tw3176000125130228352 tw6176626148168340270 tw12808074234879338744 tw3047501312133334263 tw741788920505910730 tw10411344120763570653 tw2651937980762772719 tw532817528859994239 tw16356528136570723498 tw14646271073873608885 tw14192041393715171134 tw7152534124979622577 tw18229713507959826554 tw7852197950445184368 tw8858004679364336557 tw4796369068546264787 tw1761545761254766982 tw3457912104544481919 tw14541141411565695613 tw11849230443886314108 tw16996449554005923286 tw15844147935609475093 tw4934910080043202667 tw10332753465338854201 tw5667402794876454912 tw1286927816389742671 tw12379636343271330515 tw16530915339588967796 tw14395322815383582200 tw6360722724646312593 tw2065513763461255320 tw8688508504469643185 tw6285044963559372959 tw4359959390237251047 tw3126106589908777205 tw8937614130291231598 tw8153602875025203107 tw15927485322254341101 tw355730462770580658 tw9734309441335594952 tw17261000708104104378 tw11915815280151351312 tw13532309363247321735 tw10084245246808360443 tw16624892582222444615 tw1702513294343318434 tw3798113972429562986 tw388228856880135706 tw8214713492300036535 tw7538370341336267096 tw3148140943151353078 tw6924410640555214591 tw6052578938625904091 tw14384958870245494359 tw1218801481631727176 tw1954675652714206045 tw5663690054376992356 tw803343376689946308 tw4835895245976995825 tw4395752828799483298 tw7696016866313509278 tw5683706146016057896 tw742346328683681750 tw11263247776197939034 tw6545035716847061981 tw10448335062697060260 tw647039362658961030 tw713348822712688086 tw12673941903771513097 tw15378686022071414792 tw7996557947291134560 tw10598699246944211926 tw4901030274922315179 tw6544934237203437753 tw7859932001514675798 tw17635552490138341942 tw13547803939437794876 tw16525952207323687590 tw12494957772332963451 tw13662300973714152995 tw9717838780728589310 tw10231761232633328953 tw9953611138806091417 tw8629327451485599774 tw9717573021943070395 tw3154018988964612577 tw10488338000353013008 tw15721074032657584814 tw15024458845458237892 tw10289229445088802099 tw11755861975502188173 tw2295099782365786485 tw8075850638322459168 tw8908450664885318763 tw4908636839969092559 tw10070700551340103791 tw898865326890994735 tw3095370026207483218 tw11572161515318005956 tw1572651152591754745 tw14261778665455717781 tw18289594311298480344 tw8326945326243677819 tw12012227246052440639 tw6325382742355199459 tw4535421512119851934 tw2497304771360243998 tw6952077922839105131 tw7007216306955484004 tw17086180135056173073 tw5135488293071234020 tw1080152691838916308 tw854674233507594330 tw2141383812222591863 tw12694013920620636360 tw426552495474426087 tw16950347665973168974 tw10142161246451397314 tw8289213356105308338 tw5227496977741196882 tw10703647134438272977 tw9654896278582131127 tw18257329218116585438 tw15484702308203596452 tw315635601805425352 tw15211374868507522463 tw8164670800774612437 tw16643175378851702971 tw17263266945649979725 tw3027493053091356935:True)
open PySem PySem.W PyProof.Rows
set_option maxRecDepth 100000 in
set_option maxHeartbeats 0 in
theorem PySem.Challenge.cw_networktime_s01_answers_holds : PySem.Challenge.rw_networktime_s01_answers.Holds := by
 w_on;k_headS;(case hw=>exact⟨[.list [.int 3,.int 0]],by decide+kernel,by decide+kernel⟩)
 k_fillS
 refine L2.TC (r:=PySem.Challenge.rw_networktime_s01_answers) (k:=51) (CX:=L2.jl) (ps:=["calls"]) (sp:=Nt.tj) (by decide+kernel) (by decide+kernel) rfl rfl ⟨rfl,by decide,by decide⟩ (λw h Y=>PySem.W.kIn_of Y) ?F ?S (λ_ _ _ _ z=>z)
 case F=>
  intro w mg fa h Y KX G hmg
  refine' Nt.MW hmg ?eNOTHING ?eONE ?ePart ?eNetwork ?eWave ?eMoment ?eLaws ?eRun ?eSimulator ?eReader ?tx
  (case eNOTHING=>k_is);(case eONE=>k_is);(case ePart=>k_is);(case eNetwork=>k_is);(case eWave=>k_is);(case eMoment=>k_is);(case eLaws=>k_is);(case eRun=>k_is);(case eSimulator=>k_is);(case eReader=>k_is)
  case tx=>
   constructor
   all_goals first
    |rfl
    |exact PySem.W.mg_none_of KX G (by k_is)
    |exact PySem.W.mg_of KX G (by k_is)
    |exact Nt.KL KX G (by k_is)
    |exact Nt.KN KX G (by k_is)
    |exact λG=>Nt.Rt (by k_is) G
    |exact⟨by k_is,by k_is,by k_is,by k_is⟩
    |(unfold L2.cq;k_is)
    |exact Nt.Mq KX G (by k_is) (by k_is) (by k_is) (by k_is) (λ_ _ _ _ _ _=>by repeat first|exact Nt.b0 rfl|refine Nt.bc λ_=>?_)
    |exact Nt.Mx (by k_is) (by k_is) (by k_is) (by k_is) (by k_is) (λ_ _ _ _ _ _=>by repeat first|exact Nt.b0 rfl|refine Nt.bc λ_=>?_)
    |exact Nt.Mr (by k_is) (by k_is) (by k_is) (by k_is) (by k_is) (by k_is) (by k_is) (λ_ _ _ _ _ _=>by repeat first|exact Nt.b0 rfl|refine Nt.bc λ_=>?_)
 case S=>
  intro K H xs a hO hwi hask hx
  cases hx with
  |cons h1 h2=>
   cases h2
   cases h1 with
   |aq hs ha=>
    have e:=L2.Dq a.1 _ ha
    subst e
    exact Nt.due hs hask λv Z q=>q
