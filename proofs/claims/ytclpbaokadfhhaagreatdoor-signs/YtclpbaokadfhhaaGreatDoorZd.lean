import Derived.Test.YtclpbaokadfhhaaGreatDoorXr
import Derived.Deep.AppendSrc
import Derived.Lib.AppendZeros
set_option maxRecDepth 100000
set_option maxHeartbeats 4000000
namespace Go.Proofs.YtclpbaokadfhhaaGreatDoor
open Go.RowKit
def Ns(l:List Int):Array Value:=(l.map (Value.int .i64)).toArray
theorem aK(l:List Int):(Ns l).size=l.length:=by simp[Ns]
theorem Nz{l:List Int}{n:Nat}(h:l.length=n):(Ns l).size=n:=by rw[aK,h]
theorem bf(l:List Int)(i:Nat)(h:i<l.length):(Ns l)[i]? =some (.int .i64 (l.getD i 0)):=by
 simp[Ns,List.getD,List.getElem?_eq_getElem h]
theorem eD(l:List Int)(i:Nat)(x:Int):(Ns l).setIfInBounds i (.int .i64 x)=Ns (l.set i x):=by
 simp[Ns,List.map_set]
theorem aN(l:List Int):(Ns l).all (·.oneCell')=true:=by
 rw[Array.all_eq_true_iff_forall_mem];intro v hv;simp only[Ns,List.mem_toArray,List.mem_map]at hv;obtain⟨x,_,rfl⟩:=hv;rfl
theorem aw(l:List Int)(i:Nat)(x:Int)(h:i<l.length):(l.set i x).getD i 0=x:=by simp[List.getD,h]
theorem getD_set_ne(l:List Int)(i j:Nat)(x:Int)(h:i≠j):(l.set i x).getD j 0=l.getD j 0:=by simp[List.getD,h]
namespace Fd
def Bd(M:Int)(l:List Int):Prop:= ∀i, -M≤l.getD i 0∧l.getD i 0≤M
theorem Bd.mono{M N:Int}{l:List Int}(h:Bd M l)(hMN:M≤N):Bd N l:=fun i=>⟨by have:=(h i).1;omega,by have:=(h i).2;omega⟩
theorem Bd.set{M:Int}{l:List Int}(h:Bd M l)(i:Nat)(x:Int)(h1: -M≤x)(h2:x≤M):Bd M (l.set i x):=fun j=>by
 by_cases e:i=j
 ·subst e;by_cases hi:i<l.length
  ·rw[aw _ _ _ hi];exact⟨h1,h2⟩
  ·rw[List.set_eq_of_length_le (by omega)];exact h i
 ·rw[getD_set_ne _ _ _ _ e];exact h j
def put1(l:List Int)(i:Nat):List Int:=l.set i (l.getD i 0 - l.getD i 0/65536*65536)
def step(l:List Int)(i:Nat):List Int:=
 if i<15 then(put1 l i).set (i+1) ((put1 l i).getD (i+1) 0+l.getD i 0/65536)else (put1 l i).set 0 ((put1 l i).getD 0 0+38*(l.getD i 0/65536))
def zL(l:List Int):Nat→List Int
 |0=>l
 |i+1=>step (zL l i) i
def vS(l:List Int):Nat→List Int
 |0=>l
 |k+1=>zL (vS l k) 16
def carry(l:List Int):List Int:=vS l 2
theorem put1_length(l:List Int)(i:Nat):(put1 l i).length=l.length:=by simp[put1]
theorem step_length(l:List Int)(i:Nat):(step l i).length=l.length:=by unfold step;split<;>simp[put1_length]
theorem AX(l:List Int)(i:Nat):(zL l i).length=l.length:=by
 induction i with
 |zero=>rfl
 |succ i ih=>rw[zL,step_length,ih]
theorem va(l:List Int)(i:Nat):(vS l i).length=l.length:=by
 induction i with
 |zero=>rfl
 |succ i ih=>rw[vS,AX,ih]
theorem step_bd(l:List Int)(i:Nat)(j:Int)(h0:0≤j)(hj:j≤32)(h:Bd (1125899906842624+j*2199023255552) l):Bd (1125899906842624+(j+1)*2199023255552) (step l i):=by
 have hi:=h i;have h1:Bd (1125899906842624+(j+1)*2199023255552) (put1 l i):=(h.mono (by omega)).set _ _ (by omega) (by omega);have h2:=fun k=>(h.set i (l.getD i 0 - l.getD i 0/65536*65536) (by omega) (by omega)) k
 unfold step;split
 ·have:=h2 (i+1);exact h1.set _ _ (by unfold put1;omega) (by unfold put1;omega)
 ·have:=h2 0;exact h1.set _ _ (by unfold put1;omega) (by unfold put1;omega)
theorem pass_bd(l:List Int)(k:Int)(hk0:0≤k)(hk:k≤16)(h:Bd (1125899906842624+k*2199023255552) l)(i:Nat)(hi:i≤16):Bd (1125899906842624+(k+i)*2199023255552) (zL l i):=by
 induction i with
 |zero=>rw[zL];simpa using h
 |succ i ih=>
  have:=step_bd (zL l i) i (k+i) (by omega) (by omega) (ih (by omega));rw[zL];have e:k+(i:Int)+1=k+((i+1:Nat):Int):=by omega
  rwa [e]at this
theorem passes_bd(l:List Int)(h:Bd 1125899906842624 l)(k i:Nat)(hk:k≤1)(hi:i≤16):Bd 1196268651020288 (zL (vS l k) i):=by
 have h0:Bd (1125899906842624+((16*k:Nat):Int)*2199023255552) (vS l k):=by
  match k,hk with
  |0,_=>rw[vS];simpa using h
  |1,_=>
   have:=pass_bd l 0 (by omega) (by omega) (by simpa using h) 16 (by omega);simpa [vS]using this
 exact(pass_bd _ _ (by omega) (by omega) h0 i hi).mono (by omega)
end Fd
theorem Tryz.info16:(Tryz.prog.info? 59).map (·.size)=some 16:=by kernel_rfl
theorem t59:Ty 59 16:=⟨_,Tryz.underlying59,rfl,Tryz.info16⟩
theorem ldN{ops:Array Oper}{rest:List Oper}{o:Oper}{a:Act}{w:World}{Q:Exit→Act→World→Prop}(hgd:o.guard=none){x:Operand}(ho:o.op= .load 59 x)(g:Nat)(hx:a.eval x= .pointer (some ⟨g,0,none⟩)){cs:Array Value}
  (hg:w.heap[g]? =some (.cells cs 59 (0,0))) (hs:cs.size=16) (h:wpList Tryz.prog ops Q rest (a.put o.dst (.agg cs)) w):wpList Tryz.prog ops Q (o::rest) a w:=
 wpList_load_row hgd 59 x ho g hx 59 cs (0,0) _ hg Tryz.underlying59 rfl (by rw[hs];exact Tryz.info16) h
theorem stN{ops:Array Oper}{rest:List Oper}{o:Oper}{a:Act}{w:World}{Q:Exit→Act→World→Prop}(hgd:o.guard=none){x y:Operand}(ho:o.op= .store 59 x y)(g:Nat)(hx:a.eval x= .pointer (some ⟨g,0,none⟩)){l:List Int}(hy:a.eval y= .agg (Ns l)){old:Array Value}
  (hg:w.heap[g]? =some (.cells old 59 (0,0))) (hs:(Ns l).size=16) (hold:old.size=16) (h:wpList Tryz.prog ops Q rest (a.put o.dst undef) (w.setRow g (Ns l))):wpList Tryz.prog ops Q (o::rest) a w:=
 wpList_store_row hgd 59 x y ho g _ hx hy 59 old hg (by rw[hs];exact Tryz.info16) (by rw[hs,hold]) (aN _) h
def Fd.zN:List Int:=List.replicate 16 0
theorem bC(w:World):Sem.run Tryz.prog (zeroValue 59) w= .ok (.agg (Ns Fd.zN)) w:=by kernel_rfl
theorem oW{w wr:World}{B t j:Nat}{r:List Int}(hb:Blk wr B (Ns r) t)(hj:j<15)(hle:w.heap.size≤B)(BI:Below w.heap.size w wr)(x y:Int)(hx:r.getD j 0=x)(hy:r.getD (j+1) 0=y):
  Blk ((wr.setCell ⟨B,j,none⟩ (.int .i64 (x - x/65536*65536))).setCell ⟨B,j+1,none⟩ (.int .i64 (y+x/65536))) B (Ns (Fd.step r j)) t∧
  (∀b' cs t',b'≠B→Blk wr b' cs t'→Blk ((wr.setCell ⟨B,j,none⟩ (.int .i64 (x - x/65536*65536))).setCell ⟨B,j+1,none⟩ (.int .i64 (y+x/65536))) b' cs t')∧
  Below w.heap.size w ((wr.setCell ⟨B,j,none⟩ (.int .i64 (x - x/65536*65536))).setCell ⟨B,j+1,none⟩ (.int .i64 (y+x/65536))):=by
 subst hx hy;refine⟨?_,?_,(BI.setCell hle _).setCell hle _⟩
 ·rw[hb.set,eD];have h1:=hb.row (Ns (r.set j (r.getD j 0 - r.getD j 0/65536*65536)));rw[h1.set,eD];have e:Fd.step r j=(r.set j (r.getD j 0 - r.getD j 0/65536*65536)).set (j+1) (r.getD (j+1) 0+r.getD j 0/65536):=by
   unfold Fd.step Fd.put1;rw[if_pos hj,getD_set_ne _ _ _ _ (by omega)]
  rw[e];exact h1.row _
 ·intro b' cs t' hne hb';rw[hb.set,(hb.row _).set];exact(hb'.other hne _).other hne _
theorem nG{w wr:World}{B t:Nat}{r:List Int}(hb:Blk wr B (Ns r) t)(hle:w.heap.size≤B)(BI:Below w.heap.size w wr)(x y:Int)(hx:r.getD 15 0=x)(hy:r.getD 0 0=y):
  Blk ((wr.setCell ⟨B,15,none⟩ (.int .i64 (x - x/65536*65536))).setCell ⟨B,0,none⟩ (.int .i64 (y+38*(x/65536)))) B (Ns (Fd.step r 15)) t∧
  (∀b' cs t',b'≠B→Blk wr b' cs t'→Blk ((wr.setCell ⟨B,15,none⟩ (.int .i64 (x - x/65536*65536))).setCell ⟨B,0,none⟩ (.int .i64 (y+38*(x/65536)))) b' cs t')∧
  Below w.heap.size w ((wr.setCell ⟨B,15,none⟩ (.int .i64 (x - x/65536*65536))).setCell ⟨B,0,none⟩ (.int .i64 (y+38*(x/65536)))):=by
 subst hx hy;refine⟨?_,?_,(BI.setCell hle _).setCell hle _⟩
 ·rw[hb.set,eD];have h1:=hb.row (Ns (r.set 15 (r.getD 15 0 - r.getD 15 0/65536*65536)));rw[h1.set,eD];have e:Fd.step r 15=(r.set 15 (r.getD 15 0 - r.getD 15 0/65536*65536)).set 0 (r.getD 0 0+38*(r.getD 15 0/65536)):=by
   unfold Fd.step Fd.put1;rw[if_neg (by omega),getD_set_ne _ _ _ _ (by omega)]
  rw[e];exact h1.row _
 ·intro b' cs t' hne hb';rw[hb.set,(hb.row _).set];exact(hb'.other hne _).other hne _
theorem dq(l:List Int)(w:World)(hl:l.length=16)(hbd:Fd.Bd 1125899906842624 l):
  Rw 143 #[.agg (Ns l)] w (.agg (Ns (Fd.carry l))):=by
 have hns:=Nz hl;have hz:=bC;have hb1:Blk ((w.alloc (.cells (Ns l) 59)).alloc (.cells (Ns Fd.zN) 59)) w.heap.size (Ns l) 59:=heap_alloc2_old w _ _;have hb2:Blk ((w.alloc (.cells (Ns l) 59)).alloc (.cells (Ns Fd.zN) 59)) (w.heap.size+1) (Ns Fd.zN) 59:=heap_alloc2_new w _ _;have BI:Below w.heap.size w ((w.alloc (.cells (Ns l) 59)).alloc (.cells (Ns Fd.zN) 59)):=(bR.alloc nR _).alloc (by simp) _;have HBD:Hid (Fd.Bd 1125899906842624 l):=hbd;clear hbd;have HR:Hid (Fd.carry l=Fd.vS l 2):=rfl;generalize Fd.carry l=R at HR⊢;go_enter Tryz.func143,Tryz.ntmps143;go_wp2;generalize (w.alloc (.cells (Ns l) 59)).alloc (.cells (Ns Fd.zN) 59)=w1 at hb1 hb2 BI⊢;go_loopw [3] (fun i wr=> ∃k:Nat,k≤2∧i= .int .i64 k∧Blk wr w.heap.size (Ns (Fd.vS l k)) 59∧Blk wr (w.heap.size+1) (Ns Fd.zN) 59∧Below w.heap.size w wr) (fun i _=>2 - (intOf i).toNat)
 case atStart=>exact⟨0,by omega,rfl,hb1,hb2,BI⟩
 case round=>
  clear hb1 hb2 BI;obtain⟨k,hk,rfl,hb1,hb2,BI⟩:=hrel;by_cases hlt:k<2
  ·have i0:(k:Int)<2:=by omega
   go_wp2;go_loopw [4] (fun i wr=> ∃j:Nat,j≤16∧i= .int .i64 j∧Blk wr w.heap.size (Ns (Fd.zL (Fd.vS l k) j)) 59∧Blk wr (w.heap.size+1) (Ns Fd.zN) 59∧Below w.heap.size w wr) (fun i _=>16 - (intOf i).toNat)
   case atStart=>exact⟨0,by omega,rfl,hb1,hb2,BI⟩
   case round=>
    clear hb1 hb2 BI;obtain⟨j,hj,rfl,hb1,hb2,BI⟩:=hrel;by_cases hjt:j<16
    ·have j0:(j:Int)<16:=by omega
     have hB:=Fd.passes_bd l HBD.out k j (by omega) (by omega);have hlr:(Fd.zL (Fd.vS l k) j).length=16:=by rw[Fd.AX,Fd.va,hl]
     have HS:Hid (Fd.zL (Fd.vS l k) (j+1)=Fd.step (Fd.zL (Fd.vS l k) j) j):=rfl;generalize Fd.zL (Fd.vS l k) j=r at hB hlr HS hb1;have hc:=hb1.cell j;rw[bf _ _ (by omega)]at hc;have hf:=hb1.frozen j;have hx:=hB j;by_cases hj15:j<15
     ·have j1:(j:Int)<15:=by omega
      have hc1:=hb1.cell (j+1);rw[bf _ _ (by omega)]at hc1;have hf1:=hb1.frozen (j+1);have hy:=hB (j+1);have q1: ∀v:Value,(wr.setCell ⟨w.heap.size,j,none⟩ v).cell? ⟨w.heap.size,j+1,none⟩=wr.cell? ⟨w.heap.size,j+1,none⟩:=fun v=>bc _ _ _ _ _ (by omega)
      have R:=fun x y hx hy=>oW (w:=w) (j:=j) hb1 hj15 nR BI x y hx hy
      generalize hxx:r.getD j 0=x at hc hx R;generalize hyy:r.getD (j+1) 0=y at hc1 hy R;have R1:=R x y rfl rfl;clear R;obtain⟨hx1,hx2⟩:=hx;obtain⟨hy1,hy2⟩:=hy;have HXX:Hid _:=hxx;have HYY:Hid _:=hyy;clear hxx hyy hB;go_wp2;go_roundw
      case rel=>
       refine⟨j+1,by omega,by go_num,?_,R1.2.1 _ _ _ (by omega) hb2,R1.2.2⟩;rw[show Fd.zL (Fd.vS l k) (j+1)=Fd.step r j from HS.out];exact R1.1
      case measure=>simp[intOf];omega
     ·have hj15':j=15:=by omega
      subst hj15';rw[show ((15:Nat):Int)=15 from rfl];have hc1:=hb1.cell 0;rw[bf _ _ (by omega)]at hc1;have hf1:=hb1.frozen 0;have hy:=hB 0;have q1: ∀v:Value,(wr.setCell ⟨w.heap.size,15,none⟩ v).cell? ⟨w.heap.size,0,none⟩=wr.cell? ⟨w.heap.size,0,none⟩:=fun v=>bc _ _ _ _ _ (by omega)
      have R:=fun x y hx hy=>nG (w:=w) hb1 nR BI x y hx hy
      generalize hxx:r.getD 15 0=x at hc hx R;generalize hyy:r.getD 0 0=y at hc1 hy R;have R1:=R x y rfl rfl;clear R;obtain⟨hx1,hx2⟩:=hx;obtain⟨hy1,hy2⟩:=hy;have HXX:Hid _:=hxx;have HYY:Hid _:=hyy;clear hxx hyy hB;go_wp2;go_roundw
      case rel=>
       refine⟨16,by omega,by go_num,?_,R1.2.1 _ _ _ (by omega) hb2,R1.2.2⟩;rw[show Fd.zL (Fd.vS l k) 16=Fd.step r 15 from HS.out];exact R1.1
      case measure=>simp[intOf]
    ·have hj16:j=16:=by omega
     subst hj16;rw[show ((16:Nat):Int)=16 from rfl];go_wp2;go_roundw
     case rel=>exact⟨k+1,by omega,by go_num,hb1,hb2,BI⟩
     case measure=>simp[intOf];omega
  ·have hk2:k=2:=by omega
   subst hk2;have hlr:(Fd.vS l 2).length=16:=by rw[Fd.va,hl]
   rw[←show R=Fd.vS l 2 from HR.out]at hb1 hlr;have g0:=hb1;have g1:=hb2;unfold Blk at g0 g1;have e16:=Nz hlr;go_wp2_with (first
    |(refine wpList_load_row rfl 59 _ rfl w.heap.size rfl 59 _ (0,0) _ g0 Tryz.underlying59 rfl ?h1 ?_)
    |(refine wpList_store_row rfl 59 _ _ rfl (w.heap.size+1) _ rfl rfl 59 _ g1 ?h2 ?h3 ?h4 ?_))
   case h1=>rw[e16];exact Tryz.info16
   case h2=>rw[e16];exact Tryz.info16
   case h3=>rw[e16];rfl
   case h4=>exact aN _
   refine bodyPost_ret (v:= .agg (Ns R)) ?_ rfl ⟨rfl,below_setRow BI (by omega) _⟩;exact rr t59 rfl rfl (hb2.row _) e16
namespace Fd
def xC(f:Int→Int→Int)(a b:List Int):Nat→List Int
 |0=>a
 |k+1=>(xC f a b k).set k (f (a.getD k 0) (b.getD k 0))
theorem wM(f:Int→Int→Int)(a b:List Int)(k:Nat):(xC f a b k).length=a.length:=by
 induction k with
 |zero=>rfl
 |succ k ih=>rw[xC,List.length_set,ih]
theorem Az(f:Int→Int→Int)(a b:List Int)(k i:Nat)(hk:k≤a.length)(hi:i<a.length):(xC f a b k).getD i 0=if i<k then f (a.getD i 0) (b.getD i 0)else a.getD i 0:=by
 induction k with
 |zero=>rfl
 |succ k ih=>
  rw[xC];by_cases h:k=i
  ·subst h;rw[aw _ _ _ (by rw[wM];omega),if_pos (by omega)]
  ·rw[getD_set_ne _ _ _ _ h,ih (by omega)];by_cases h2:i<k
   ·rw[if_pos h2,if_pos (by omega)]
   ·rw[if_neg h2,if_neg (by omega)]
def add(a b:List Int):List Int:=xC (· + ·) a b 16
def sub(a b:List Int):List Int:=xC (· - ·) a b 16
theorem getD_ge(l:List Int)(i:Nat)(h:l.length≤i):l.getD i 0=0:=by simp[List.getD,List.getElem?_eq_none h]
theorem op_bd(f:Int→Int→Int)(a b:List Int)(ha:a.length=16)(M:Int)(hM:0≤M)(h: ∀i, -M≤f (a.getD i 0) (b.getD i 0)∧f (a.getD i 0) (b.getD i 0)≤M):Bd M (xC f a b 16):=fun i=>by
 by_cases hi:i<16
 ·rw[Az f a b 16 i (by omega) (by omega),if_pos hi];exact h i
 ·rw[getD_ge _ _ (by rw[wM];omega)];omega
def plus(a b:List Int):List Int:=carry (add a b)
def minus(a b:List Int):List Int:=carry (sub a b)
end Fd
theorem jG{w wr:World}{B k t:Nat}{a b:List Int}{f:Int→Int→Int}{v:Int}(hb:Blk wr B (Ns (Fd.xC f a b k)) t)(hle:w.heap.size≤B)(BI:Below w.heap.size w wr)(hv:v=f (a.getD k 0) (b.getD k 0)):
  Blk (wr.setCell ⟨B,k,none⟩ (.int .i64 v)) B (Ns (Fd.xC f a b (k+1))) t∧(∀b' cs t',b'≠B→Blk wr b' cs t'→Blk (wr.setCell ⟨B,k,none⟩ (.int .i64 v)) b' cs t')∧Below w.heap.size w (wr.setCell ⟨B,k,none⟩ (.int .i64 v)):=by
 subst hv;refine⟨?_,?_,BI.setCell hle _⟩
 ·rw[hb.set,eD];exact hb.row _
 ·intro b' cs t' hne hb';rw[hb.set];exact hb'.other hne _
theorem oH(a b:List Int)(w:World)(ha:a.length=16)(hb:b.length=16)(hA:Fd.Bd 562949953421312 a)(hB:Fd.Bd 562949953421312 b):
  Rw 80 #[.agg (Ns a),.agg (Ns b)] w (.agg (Ns (Fd.plus a b))):=by
 have hna:=Nz ha;have hnb:=Nz hb;have hz:=bC;have hb1:=Blk.alloc (Blk.alloc (Blk.new w (Ns a) 59) (.cells (Ns b) 59)) (.cells (Ns Fd.zN) 59);have hb2:=Blk.alloc (Blk.new (w.alloc (.cells (Ns a) 59)) (Ns b) 59) (.cells (Ns Fd.zN) 59);have hb3:=Blk.new ((w.alloc (.cells (Ns a) 59)).alloc (.cells (Ns b) 59)) (Ns Fd.zN) 59;have BI:Below w.heap.size w (((w.alloc (.cells (Ns a) 59)).alloc (.cells (Ns b) 59)).alloc (.cells (Ns Fd.zN) 59)):=
  ((bR.alloc nR _).alloc (by simp) _).alloc (by simp;omega) _
 rw[show (w.alloc (.cells (Ns a) 59)).heap.size=w.heap.size+1 by simp]at hb2;rw[show ((w.alloc (.cells (Ns a) 59)).alloc (.cells (Ns b) 59)).heap.size=w.heap.size+1+1 by simp]at hb3;have HR:Hid (Fd.plus a b=Fd.carry (Fd.xC (· + ·) a b 16)):=rfl;generalize Fd.plus a b=R at HR⊢;go_enter Tryz.func80,Tryz.ntmps80;go_wp2;generalize ((w.alloc (.cells (Ns a) 59)).alloc (.cells (Ns b) 59)).alloc (.cells (Ns Fd.zN) 59)=w1 at hb1 hb2 hb3 BI⊢;go_loopw [5] (fun i wr=> ∃k:Nat,k≤16∧i= .int .i64 k∧Blk wr w.heap.size (Ns (Fd.xC (· + ·) a b k)) 59∧Blk wr (w.heap.size+1) (Ns b) 59∧Blk wr (w.heap.size+1+1) (Ns Fd.zN) 59∧Below w.heap.size w wr) (fun i _=>16 - (intOf i).toNat)
 case atStart=>exact⟨0,by omega,rfl,hb1,hb2,hb3,BI⟩
 case round=>
  clear hb1 hb2 hb3 BI;obtain⟨k,hk,rfl,hb1,hb2,hb3,BI⟩:=hrel;by_cases hlt:k<16
  ·have i0:(k:Int)<16:=by omega
   have hc:=hb1.cell k;rw[bf _ _ (by rw[Fd.wM];omega),Fd.Az _ _ _ _ _ (by omega) (by omega),if_neg (by omega)]at hc;have hf:=hb1.frozen k;have hc2:=hb2.cell k;rw[bf _ _ (by omega)]at hc2;have R1:=fun v hv=>jG (w:=w) (k:=k) (v:=v) hb1 nR BI hv
   have hx:=hA k;have hy:=hB k;have HA:Hid (Fd.Bd 562949953421312 a):=hA;have HB:Hid (Fd.Bd 562949953421312 b):=hB;generalize a.getD k 0=x at hc hx R1;generalize b.getD k 0=y at hc2 hy R1;have R2:=R1 (x+y) rfl;clear R1;obtain⟨hx1,hx2⟩:=hx;obtain⟨hy1,hy2⟩:=hy;have hwr:IntKind.i64.wrap (x+y)=x+y:=by rw[IntKind.wrap_i64];omega
   clear hA hB;go_wp2_with fail;go_region
   all_goals
    go_wp2;go_roundw
    case rel=>exact⟨k+1,by omega,by go_num,R2.1,R2.2.1 _ _ _ (by omega) hb2,R2.2.1 _ _ _ (by omega) hb3,R2.2.2.drew⟩
    case measure=>simp[intOf];omega
  ·have BZ:k=16:=by omega
   subst BZ;have hlr:(Fd.xC (· + ·) a b 16).length=16:=by rw[Fd.wM,ha]
   have hBD:Fd.Bd 1125899906842624 (Fd.xC (· + ·) a b 16):=Fd.op_bd _ a b ha _ (by omega) (fun i=>by have h1:=hA i;have h2:=hB i;show -1125899906842624≤a.getD i 0+b.getD i 0∧a.getD i 0+b.getD i 0≤1125899906842624;omega);have hrl:(Fd.carry (Fd.xC (· + ·) a b 16)).length=16:=by unfold Fd.carry;rw[Fd.va,hlr]
   generalize Fd.xC (· + ·) a b 16=r at hb1 hlr hBD HR hrl;rw[←show R=Fd.carry r from HR.out]at hrl;have HBD:Hid (Fd.Bd 1125899906842624 r):=hBD;clear hBD;have g0:=hb1;unfold Blk at g0;have e16:=Nz hlr;have CA:=Nz hrl;go_wp2_with (first
    |(go_at_call 143;refine(dq r _ hlr HBD.out).mono ?_;rw[←show R=Fd.carry r from HR.out];rintro e w3 ⟨rfl,hb4⟩;have g3:w3.heap[w.heap.size+1+1]? =_:=hb3.keep hb4)
    |(refine wpList_load_row rfl 59 _ rfl w.heap.size rfl 59 _ (0,0) _ g0 Tryz.underlying59 rfl ?h1 ?_)
    |(refine wpList_store_row rfl 59 _ _ rfl (w.heap.size+1+1) _ rfl rfl 59 _ g3 ?h2 ?h3 ?h4 ?_))
   case h1=>rw[e16];exact Tryz.info16
   case h2=>rw[CA];exact Tryz.info16
   case h3=>rw[CA];rfl
   case h4=>exact aN _
   have hb3':Blk w3 (w.heap.size+1+1) _ 59:=hb3.keep hb4;refine bodyPost_ret (v:= .agg (Ns R)) ?_ rfl ⟨rfl,below_setRow (BI.trans (hb4.mono BI.size)) (by omega) _⟩;exact rr t59 rfl rfl (hb3'.row _) CA
theorem nv(a b:List Int)(w:World)(ha:a.length=16)(hb:b.length=16)(hA:Fd.Bd 562949953421312 a)(hB:Fd.Bd 562949953421312 b):
  Rw 140 #[.agg (Ns a),.agg (Ns b)] w (.agg (Ns (Fd.minus a b))):=by
 have hna:=Nz ha;have hnb:=Nz hb;have hz:=bC;have hb1:=Blk.alloc (Blk.alloc (Blk.new w (Ns a) 59) (.cells (Ns b) 59)) (.cells (Ns Fd.zN) 59);have hb2:=Blk.alloc (Blk.new (w.alloc (.cells (Ns a) 59)) (Ns b) 59) (.cells (Ns Fd.zN) 59);have hb3:=Blk.new ((w.alloc (.cells (Ns a) 59)).alloc (.cells (Ns b) 59)) (Ns Fd.zN) 59;have BI:Below w.heap.size w (((w.alloc (.cells (Ns a) 59)).alloc (.cells (Ns b) 59)).alloc (.cells (Ns Fd.zN) 59)):=
  ((bR.alloc nR _).alloc (by simp) _).alloc (by simp;omega) _
 rw[show (w.alloc (.cells (Ns a) 59)).heap.size=w.heap.size+1 by simp]at hb2;rw[show ((w.alloc (.cells (Ns a) 59)).alloc (.cells (Ns b) 59)).heap.size=w.heap.size+1+1 by simp]at hb3;have HR:Hid (Fd.minus a b=Fd.carry (Fd.xC (· - ·) a b 16)):=rfl;generalize Fd.minus a b=R at HR⊢;go_enter Tryz.func140,Tryz.ntmps140;go_wp2;generalize ((w.alloc (.cells (Ns a) 59)).alloc (.cells (Ns b) 59)).alloc (.cells (Ns Fd.zN) 59)=w1 at hb1 hb2 hb3 BI⊢;go_loopw [5] (fun i wr=> ∃k:Nat,k≤16∧i= .int .i64 k∧Blk wr w.heap.size (Ns (Fd.xC (· - ·) a b k)) 59∧Blk wr (w.heap.size+1) (Ns b) 59∧Blk wr (w.heap.size+1+1) (Ns Fd.zN) 59∧Below w.heap.size w wr) (fun i _=>16 - (intOf i).toNat)
 case atStart=>exact⟨0,by omega,rfl,hb1,hb2,hb3,BI⟩
 case round=>
  clear hb1 hb2 hb3 BI;obtain⟨k,hk,rfl,hb1,hb2,hb3,BI⟩:=hrel;by_cases hlt:k<16
  ·have i0:(k:Int)<16:=by omega
   have hc:=hb1.cell k;rw[bf _ _ (by rw[Fd.wM];omega),Fd.Az _ _ _ _ _ (by omega) (by omega),if_neg (by omega)]at hc;have hf:=hb1.frozen k;have hc2:=hb2.cell k;rw[bf _ _ (by omega)]at hc2;have R1:=fun v hv=>jG (w:=w) (k:=k) (v:=v) hb1 nR BI hv
   have hx:=hA k;have hy:=hB k;have HA:Hid (Fd.Bd 562949953421312 a):=hA;have HB:Hid (Fd.Bd 562949953421312 b):=hB;generalize a.getD k 0=x at hc hx R1;generalize b.getD k 0=y at hc2 hy R1;have R2:=R1 (x - y) rfl;clear R1;obtain⟨hx1,hx2⟩:=hx;obtain⟨hy1,hy2⟩:=hy;have hwr:IntKind.i64.wrap (x - y)=x - y:=by rw[IntKind.wrap_i64];omega
   clear hA hB;go_wp2_with fail;go_region
   all_goals
    go_wp2;go_roundw
    case rel=>exact⟨k+1,by omega,by go_num,R2.1,R2.2.1 _ _ _ (by omega) hb2,R2.2.1 _ _ _ (by omega) hb3,R2.2.2.drew⟩
    case measure=>simp[intOf];omega
  ·have BZ:k=16:=by omega
   subst BZ;have hlr:(Fd.xC (· - ·) a b 16).length=16:=by rw[Fd.wM,ha]
   have hBD:Fd.Bd 1125899906842624 (Fd.xC (· - ·) a b 16):=Fd.op_bd _ a b ha _ (by omega) (fun i=>by have h1:=hA i;have h2:=hB i;show -1125899906842624≤a.getD i 0 - b.getD i 0∧a.getD i 0 - b.getD i 0≤1125899906842624;omega);have hrl:(Fd.carry (Fd.xC (· - ·) a b 16)).length=16:=by unfold Fd.carry;rw[Fd.va,hlr]
   generalize Fd.xC (· - ·) a b 16=r at hb1 hlr hBD HR hrl;rw[←show R=Fd.carry r from HR.out]at hrl;have HBD:Hid (Fd.Bd 1125899906842624 r):=hBD;clear hBD;have g0:=hb1;unfold Blk at g0;have e16:=Nz hlr;have CA:=Nz hrl;go_wp2_with (first
    |(go_at_call 143;refine(dq r _ hlr HBD.out).mono ?_;rw[←show R=Fd.carry r from HR.out];rintro e w3 ⟨rfl,hb4⟩;have g3:w3.heap[w.heap.size+1+1]? =_:=hb3.keep hb4)
    |(refine wpList_load_row rfl 59 _ rfl w.heap.size rfl 59 _ (0,0) _ g0 Tryz.underlying59 rfl ?h1 ?_)
    |(refine wpList_store_row rfl 59 _ _ rfl (w.heap.size+1+1) _ rfl rfl 59 _ g3 ?h2 ?h3 ?h4 ?_))
   case h1=>rw[e16];exact Tryz.info16
   case h2=>rw[CA];exact Tryz.info16
   case h3=>rw[CA];rfl
   case h4=>exact aN _
   have hb3':Blk w3 (w.heap.size+1+1) _ 59:=hb3.keep hb4;refine bodyPost_ret (v:= .agg (Ns R)) ?_ rfl ⟨rfl,below_setRow (BI.trans (hb4.mono BI.size)) (by omega) _⟩;exact rr t59 rfl rfl (hb3'.row _) CA
theorem kt(n:Int):(#[Value.int .i64 n,Value.int .i64 0,Value.int .i64 0,Value.int .i64 0,Value.int .i64 0,Value.int .i64 0,Value.int .i64 0,Value.int .i64 0,Value.int .i64 0,Value.int .i64 0,Value.int .i64 0,Value.int .i64 0,Value.int .i64 0,Value.int .i64 0,Value.int .i64 0,Value.int .i64 0]:Array Value)=Ns (Fd.zN.set 0 n):=rfl
def Fd.small(n:Int):List Int:=Fd.zN.set 0 n
theorem bj(n:Int)(w:World):
  Rw 81 #[.int .i64 n] w (.agg (Ns (Fd.small n))):=by
 go_enter Tryz.func81,Tryz.ntmps81;go_wp2;rw[kt];refine bodyPost_ret (v:= .agg (Ns (Fd.small n))) ?_ rfl ⟨rfl,bR.alloc nR _⟩;exact results_cell_row rfl _ _ w.heap.size 59 _ (0,0) _ rfl (Blk.new w _ _) Tryz.underlying59 rfl (by rw[aK];exact Tryz.info16)
namespace Fd
def none31:List Int:=List.replicate 31 0
def rowTo(a b t:List Int)(i:Nat):Nat→List Int
 |0=>t
 |k+1=>(rowTo a b t i k).set (i+k) ((rowTo a b t i k).getD (i+k) 0+a.getD i 0*b.getD k 0)
def vy(a b:List Int):Nat→List Int
 |0=>none31
 |i+1=>rowTo a b (vy a b i) i 16
theorem rowTo_length(a b t:List Int)(i k:Nat):(rowTo a b t i k).length=t.length:=by
 induction k with
 |zero=>rfl
 |succ k ih=>rw[rowTo,List.length_set,ih]
theorem yt(a b:List Int)(i:Nat):(vy a b i).length=31:=by
 induction i with
 |zero=>rfl
 |succ i ih=>rw[vy,rowTo_length,ih]
def u7(t:List Int):Nat→List Int
 |0=>zN
 |k+1=>(u7 t k).set k (if k<15 then t.getD k 0+38*t.getD (k+16) 0 else t.getD k 0)
theorem yv(t:List Int)(k:Nat):(u7 t k).length=16:=by
 induction k with
 |zero=>rfl
 |succ k ih=>rw[u7,List.length_set,ih]
def by_(a b:List Int):List Int:=carry (u7 (vy a b 16) 16)
theorem by_length(a b:List Int):(by_ a b).length=16:=by unfold by_ carry;rw[va,yv]
theorem mul_bd(x y:Int)(hx: -131072≤x∧x≤131072)(hy: -131072≤y∧y≤131072): -17179869184≤x*y∧x*y≤17179869184:=by
 have h1:(131072 - x)*(131072 - y)≥0:=Int.mul_nonneg (by omega) (by omega);have h2:(131072+x)*(131072+y)≥0:=Int.mul_nonneg (by omega) (by omega);have h3:(131072 - x)*(131072+y)≥0:=Int.mul_nonneg (by omega) (by omega);have h4:(131072+x)*(131072 - y)≥0:=Int.mul_nonneg (by omega) (by omega);simp only[Int.sub_mul,Int.mul_sub,Int.add_mul,Int.mul_add]at h1 h2 h3 h4;omega
theorem rowTo_bd(a b t:List Int)(i k:Nat)(M:Int)(ha:Bd 131072 a)(hb:Bd 131072 b)(ht:Bd M t):Bd (M+17179869184) (rowTo a b t i k)∧ ∀j,i+k≤j→(rowTo a b t i k).getD j 0=t.getD j 0:=by
 induction k with
 |zero=>exact⟨ht.mono (by omega),fun j _=>rfl⟩
 |succ k ih=>
  have hm:=mul_bd _ _ (ha i) (hb k);have h1:=ih.2 (i+k) nR;have h2:=ht (i+k);rw[rowTo];refine⟨ih.1.set _ _ (by rw[h1];omega) (by rw[h1];omega),fun j hj=> ?_⟩;rw[getD_set_ne _ _ _ _ (by omega),ih.2 j (by omega)]
theorem AA(n i:Nat):(List.replicate n (0:Int)).getD i 0=0:=by
 by_cases h:i<n
 ·simp[List.getD,h]
 ·simp[List.getD,h]
theorem none_bd(n:Nat):Bd 0 (List.replicate n 0):=fun i=>by
 rw[AA];omega
theorem zK(a b:List Int)(i:Nat)(ha:Bd 131072 a)(hb:Bd 131072 b):Bd ((i:Int)*17179869184) (vy a b i):=by
 induction i with
 |zero=>exact(none_bd 31).mono (by omega)
 |succ i ih=>
  have:=(rowTo_bd a b (vy a b i) i 16 _ ha hb ih).1;rw[vy];exact this.mono (by omega)
theorem foldTo_bd(t:List Int)(k:Nat)(ht:Bd 274877906944 t):Bd 10720238370816 (u7 t k)∧ ∀j,k≤j→(u7 t k).getD j 0=0:=by
 induction k with
 |zero=>exact⟨(none_bd 16).mono (by omega),fun j _=>AA 16 j⟩
 |succ k ih=>
  have h1:=ht k;have h2:=ht (k+16);rw[u7];refine⟨ih.1.set _ _ (by split<;>omega) (by split<;>omega),fun j hj=> ?_⟩;rw[getD_set_ne _ _ _ _ (by omega),ih.2 j (by omega)]
end Fd
theorem rk(w:World):Sem.run Tryz.prog (zeroValue 149) w= .ok (.agg (Ns Fd.none31)) w:=by kernel_rfl
theorem cC{w wr:World}{B t i:Nat}{l:List Int}{v:Int}(hb:Blk wr B (Ns l) t)(hle:w.heap.size≤B)(BI:Below w.heap.size w wr):
  Blk (wr.setCell ⟨B,i,none⟩ (.int .i64 v)) B (Ns (l.set i v)) t∧(∀b' cs t',b'≠B→Blk wr b' cs t'→Blk (wr.setCell ⟨B,i,none⟩ (.int .i64 v)) b' cs t')∧Below w.heap.size w (wr.setCell ⟨B,i,none⟩ (.int .i64 v)):=by
 refine⟨?_,?_,BI.setCell hle _⟩
 ·rw[hb.set,eD];exact hb.row _
 ·intro b' cs t' hne hb';rw[hb.set];exact hb'.other hne _
theorem iv(a b:List Int)(w:World)(ha:a.length=16)(hb:b.length=16)(hA:Fd.Bd 131072 a)(hB:Fd.Bd 131072 b):
  Rw 84 #[.agg (Ns a),.agg (Ns b)] w (.agg (Ns (Fd.by_ a b))):=by
 have hna:=Nz ha;have hnb:=Nz hb;have hz:=bC;have hz31:=rk;have HA:Hid (Fd.Bd 131072 a):=hA;have HB:Hid (Fd.Bd 131072 b):=hB;clear hA hB;have hb1:=Blk.alloc (Blk.alloc (Blk.alloc (Blk.new w (Ns a) 59) (.cells (Ns b) 59)) (.cells (Ns Fd.zN) 59)) (.cells (Ns Fd.none31) 149);have hb2:=Blk.alloc (Blk.alloc (Blk.new (w.alloc (.cells (Ns a) 59)) (Ns b) 59) (.cells (Ns Fd.zN) 59)) (.cells (Ns Fd.none31) 149);have hb3:=Blk.alloc (Blk.new ((w.alloc (.cells (Ns a) 59)).alloc (.cells (Ns b) 59)) (Ns Fd.zN) 59) (.cells (Ns Fd.none31) 149);have hb4:=Blk.new (((w.alloc (.cells (Ns a) 59)).alloc (.cells (Ns b) 59)).alloc (.cells (Ns Fd.zN) 59)) (Ns Fd.none31) 149;have BI:Below w.heap.size w ((((w.alloc (.cells (Ns a) 59)).alloc (.cells (Ns b) 59)).alloc (.cells (Ns Fd.zN) 59)).alloc (.cells (Ns Fd.none31) 149)):=
  (((bR.alloc nR _).alloc (by simp) _).alloc (by simp;omega) _).alloc (by simp;omega) _
 rw[show (w.alloc (.cells (Ns a) 59)).heap.size=w.heap.size+1 by simp]at hb2;rw[show ((w.alloc (.cells (Ns a) 59)).alloc (.cells (Ns b) 59)).heap.size=w.heap.size+1+1 by simp]at hb3;rw[show (((w.alloc (.cells (Ns a) 59)).alloc (.cells (Ns b) 59)).alloc (.cells (Ns Fd.zN) 59)).heap.size=w.heap.size+1+1+1 by simp]at hb4;have HR:Hid (Fd.by_ a b=Fd.carry (Fd.u7 (Fd.vy a b 16) 16)):=rfl;generalize Fd.by_ a b=R at HR⊢;go_enter Tryz.func84,Tryz.ntmps84;go_wp2;generalize (((w.alloc (.cells (Ns a) 59)).alloc (.cells (Ns b) 59)).alloc (.cells (Ns Fd.zN) 59)).alloc (.cells (Ns Fd.none31) 149)=w1 at hb1 hb2 hb3 hb4 BI⊢;go_loopw [6] (fun i wr=> ∃k:Nat,k≤16∧i= .int .i64 k∧Blk wr (w.heap.size+1+1+1) (Ns (Fd.vy a b k)) 149∧Blk wr w.heap.size (Ns a) 59∧Blk wr (w.heap.size+1) (Ns b) 59∧Blk wr (w.heap.size+1+1) (Ns Fd.zN) 59∧Below w.heap.size w wr) (fun i _=>16 - (intOf i).toNat)
 case atStart=>exact⟨0,by omega,rfl,hb4,hb1,hb2,hb3,BI⟩
 case round=>
  clear hb1 hb2 hb3 hb4 BI;obtain⟨i,hi,rfl,hb4,hb1,hb2,hb3,BI⟩:=hrel;by_cases hlt:i<16
  ·have i0:(i:Int)<16:=by omega
   go_wp2;go_loopw [7] (fun q wr=> ∃k:Nat,k≤16∧q= .int .i64 k∧Blk wr (w.heap.size+1+1+1) (Ns (Fd.rowTo a b (Fd.vy a b i) i k)) 149∧Blk wr w.heap.size (Ns a) 59∧Blk wr (w.heap.size+1) (Ns b) 59∧Blk wr (w.heap.size+1+1) (Ns Fd.zN) 59∧Below w.heap.size w wr) (fun q _=>16 - (intOf q).toNat)
   case atStart=>exact⟨0,by omega,rfl,hb4,hb1,hb2,hb3,BI⟩
   case round=>
    clear hb1 hb2 hb3 hb4 BI;obtain⟨k,hk,rfl,hb4,hb1,hb2,hb3,BI⟩:=hrel;by_cases hkt:k<16
    ·have k0:(k:Int)<16:=by omega
     have hlr:(Fd.rowTo a b (Fd.vy a b i) i k).length=31:=by rw[Fd.rowTo_length,Fd.yt]
     have hbd:=(Fd.rowTo_bd a b (Fd.vy a b i) i k _ HA.out HB.out (Fd.zK a b i HA.out HB.out)).1 (i+k);have HS:Hid (Fd.rowTo a b (Fd.vy a b i) i (k+1)=(Fd.rowTo a b (Fd.vy a b i) i k).set (i+k) ((Fd.rowTo a b (Fd.vy a b i) i k).getD (i+k) 0+a.getD i 0*b.getD k 0)):=rfl;generalize Fd.rowTo a b (Fd.vy a b i) i k=r at hb4 hlr hbd HS;have hct:=hb4.cell (i+k);rw[bf _ _ (by omega)]at hct;have hf:=hb4.frozen (i+k);have hca:=hb1.cell i;rw[bf _ _ (by omega)]at hca;have hcb:=hb2.cell k;rw[bf _ _ (by omega)]at hcb;have hm:=Fd.mul_bd _ _ (HA.out i) (HB.out k);generalize a.getD i 0=x at hca hm HS;generalize b.getD k 0=y at hcb hm HS;generalize r.getD (i+k) 0=z at hct hbd HS;have R1:=cC (w:=w) (i:=i+k) (v:=z+x*y) hb4 (by omega) BI;have w1':IntKind.i64.wrap (x*y)=x*y:=by rw[IntKind.wrap_i64];omega
     have w2':IntKind.i64.wrap (z+x*y)=z+x*y:=by rw[IntKind.wrap_i64];omega
     have w3':IntKind.i64.wrap ((i:Int)+(k:Int))=(i:Int)+(k:Int):=by rw[IntKind.wrap_i64];omega
     have w4':((i:Int)+(k:Int)).toNat=i+k:=by omega
     have w5':(i:Int)+(k:Int)<31:=by omega
     have w6':(0:Int)≤(i:Int)+(k:Int):=by omega
     clear hbd hm;go_wp2_with fail;go_region
     all_goals
      go_wp2;go_roundw
      case rel=>
       refine⟨k+1,by omega,by go_num,?_,R1.2.1 _ _ _ (by omega) hb1,R1.2.1 _ _ _ (by omega) hb2,R1.2.1 _ _ _ (by omega) hb3,R1.2.2.drew⟩;rw[show Fd.rowTo a b (Fd.vy a b i) i (k+1)=_ from HS.out];exact R1.1
      case measure=>simp[intOf];omega
    ·have BZ:k=16:=by omega
     subst BZ;rw[show ((16:Nat):Int)=16 from rfl];go_wp2;go_roundw
     case rel=>exact⟨i+1,by omega,by go_num,hb4,hb1,hb2,hb3,BI⟩
     case measure=>simp[intOf];omega
  ·have hi16:i=16:=by omega
   subst hi16;rw[show ((16:Nat):Int)=16 from rfl];have hbdt:Fd.Bd 274877906944 (Fd.vy a b 16):=(Fd.zK a b 16 HA.out HB.out).mono (by omega);have hlt31:=Fd.yt a b 16;generalize Fd.vy a b 16=t at hb4 hbdt hlt31 HR;have HBT:Hid (Fd.Bd 274877906944 t):=hbdt;clear hbdt;have hc0:=Blk.new wr (Ns Fd.zN) 59;have hd3:=hb3.alloc (.cells (Ns Fd.zN) 59);have hd4:=hb4.alloc (.cells (Ns Fd.zN) 59);have BQ:Below w.heap.size w (wr.alloc (.cells (Ns Fd.zN) 59)):=BI.alloc BI.size _;have hC:=hb4.lt;clear hb1 hb2 hb3 hb4;go_wp2;generalize wr.alloc (.cells (Ns Fd.zN) 59)=w2 at hc0 hd3 hd4 BQ⊢;generalize wr.heap.size=C0 at hc0 hC⊢;clear BI;go_loopw [9] (fun q wr=> ∃k:Nat,k≤16∧q= .int .i64 k∧Blk wr C0 (Ns (Fd.u7 t k)) 59∧Blk wr (w.heap.size+1+1+1) (Ns t) 149∧Blk wr (w.heap.size+1+1) (Ns Fd.zN) 59∧Below w.heap.size w wr) (fun q _=>16 - (intOf q).toNat)
   case atStart=>exact⟨0,by omega,rfl,hc0,hd4,hd3,BQ⟩
   case round=>
    clear hc0 hd3 hd4 BQ;obtain⟨k,hk,rfl,hc0,hb4,hb3,BI⟩:=hrel;by_cases hkt:k<16
    ·have k0:(k:Int)<16:=by omega
     have hlf:=Fd.yv t k;have ht1:=hb4.cell k;rw[bf _ _ (by omega)]at ht1;have hcc:=hc0.cell k;rw[bf _ _ (by omega)]at hcc;have hf:=hc0.frozen k;have hy:=HBT.out k;by_cases hk15:k<15
     ·have k1:(k:Int)<15:=by omega
      have HS:Hid (Fd.u7 t (k+1)=(Fd.u7 t k).set k (t.getD k 0+38*t.getD (k+16) 0)):=by show _=_;rw[Fd.u7,if_pos hk15]
      generalize Fd.u7 t k=r at hc0 hlf hcc HS;have ht2:=hb4.cell (k+16);rw[bf _ _ (by omega)]at ht2;have hz2:=HBT.out (k+16);generalize t.getD k 0=x at ht1 hy HS;generalize t.getD (k+16) 0=y at ht2 hz2 HS;have R1:=cC (w:=w) (i:=k) (v:=x) hc0 (by omega) BI;have R2:=cC (w:=w) (i:=k) (v:=x+38*y) R1.1 (by omega) R1.2.2;rw[List.set_set]at R2;have hb4':=(R1.2.1 _ _ _ (by omega) hb4).cell (k+16);have hb4s:=R1.2.1 _ _ _ (by omega) hb4;have hb3s:=R1.2.1 _ _ _ (by omega) hb3;have hcr:=R1.1.cell k;rw[bf _ _ (by rw[List.length_set];omega),aw _ _ _ (by omega)]at hcr;have hfr:=R1.1.frozen k;have ht2':(wr.setCell ⟨C0,k,none⟩ (.int .i64 x)).cell? ⟨w.heap.size+1+1+1,k+16,none⟩=some (.int .i64 y):=by rw[hb4',←hb4.cell (k+16)];exact ht2
      clear hb4';obtain⟨y1,y2⟩:=hy;obtain⟨z1,z2⟩:=hz2;have w1':IntKind.i64.wrap (38*y)=38*y:=by rw[IntKind.wrap_i64];omega
      have w2':IntKind.i64.wrap (x+38*y)=x+38*y:=by rw[IntKind.wrap_i64];omega
      have w3':IntKind.i64.wrap ((k:Int)+16)=(k:Int)+16:=by rw[IntKind.wrap_i64];omega
      have w4':((k:Int)+16).toNat=k+16:=by omega
      have w5':(k:Int)+16<31:=by omega
      have w6':(0:Int)≤(k:Int)+16:=by omega
      have RR1:Hid _:=R1;clear R1;go_wp2_with fail;go_region
      all_goals
       go_wp2;go_roundw
       case rel=>
        refine⟨k+1,by omega,by go_num,?_,R2.2.1 _ _ _ (by omega) hb4s,R2.2.1 _ _ _ (by omega) hb3s,R2.2.2.drew⟩;rw[show Fd.u7 t (k+1)=_ from HS.out];exact R2.1
       case measure=>simp[intOf];omega
     ·have hk15':k=15:=by omega
      subst hk15';rw[show ((15:Nat):Int)=15 from rfl];have HS:Hid (Fd.u7 t 16=(Fd.u7 t 15).set 15 (t.getD 15 0)):=rfl;generalize Fd.u7 t 15=r at hc0 hlf hcc HS;generalize t.getD 15 0=x at ht1 hy HS;have R1:=cC (w:=w) (i:=15) (v:=x) hc0 (by omega) BI;go_wp2;go_roundw
      case rel=>
       refine⟨16,by omega,by go_num,?_,R1.2.1 _ _ _ (by omega) hb4,R1.2.1 _ _ _ (by omega) hb3,R1.2.2⟩;rw[show Fd.u7 t 16=_ from HS.out];exact R1.1
      case measure=>simp[intOf]
    ·have BZ:k=16:=by omega
     subst BZ;have hlr:=Fd.yv t 16;have hBD:Fd.Bd 1125899906842624 (Fd.u7 t 16):=(Fd.foldTo_bd t 16 HBT.out).1.mono (by omega);have hrl:(Fd.carry (Fd.u7 t 16)).length=16:=by unfold Fd.carry;rw[Fd.va,hlr]
     generalize Fd.u7 t 16=r at hc0 hlr hBD HR hrl;rw[←show R=Fd.carry r from HR.out]at hrl;have HBD:Hid (Fd.Bd 1125899906842624 r):=hBD;clear hBD;have g0:=hc0;unfold Blk at g0;have e16:=Nz hlr;have CA:=Nz hrl;go_wp2_with (first
      |(go_at_call 143;refine(dq r _ hlr HBD.out).mono ?_;rw[←show R=Fd.carry r from HR.out];rintro e w3 ⟨rfl,hb5⟩;have g3:w3.heap[w.heap.size+1+1]? =_:=hb3.keep hb5)
      |(refine wpList_load_row rfl 59 _ rfl C0 rfl 59 _ (0,0) _ g0 Tryz.underlying59 rfl ?h1 ?_)
      |(refine wpList_store_row rfl 59 _ _ rfl (w.heap.size+1+1) _ rfl rfl 59 _ g3 ?h2 ?h3 ?h4 ?_))
     case h1=>rw[e16];exact Tryz.info16
     case h2=>rw[CA];exact Tryz.info16
     case h3=>rw[CA];rfl
     case h4=>exact aN _
     have hb3':Blk w3 (w.heap.size+1+1) _ 59:=hb3.keep hb5;refine bodyPost_ret (v:= .agg (Ns R)) ?_ rfl ⟨rfl,below_setRow (BI.trans (hb5.mono BI.size)) (by omega) _⟩;exact rr t59 rfl rfl (hb3'.row _) CA
namespace Fd
def cy(l:List Int):Nat→Int
 |0=>0
 |i+1=>(l.getD i 0+cy l i)/65536
theorem pass_at(l:List Int)(hl:l.length=16)(i:Nat)(hi:i≤15)(j:Nat)(hj:j<16):
  (zL l i).getD j 0=if j<i then(l.getD j 0+cy l j)%65536 else if j=i then l.getD j 0+cy l i else l.getD j 0:=by
 induction i generalizing j with
 |zero=>
  rw[zL,if_neg (by omega)];split
  ·simp[cy]
  ·rfl
 |succ i ih=>
  have hlen:=AX l i;have h0:=ih (by omega) i (by omega);rw[if_neg (by omega),if_pos rfl]at h0;have h1:=ih (by omega) (i+1) (by omega);rw[if_neg (by omega),if_neg (by omega)]at h1;rw[zL,step,if_pos (by omega)];unfold put1;by_cases e1:j=i+1
  ·subst e1;rw[aw _ _ _ (by rw[List.length_set];omega),getD_set_ne _ _ _ _ (by omega),h1,h0,if_neg (by omega),if_pos rfl,cy]
  ·rw[getD_set_ne _ _ _ _ (by omega)];by_cases e2:j=i
   ·subst e2;rw[aw _ _ _ (by omega),h0,if_pos (by omega)];omega
   ·rw[getD_set_ne _ _ _ _ (by omega),ih (by omega) j hj];by_cases e3:j<i
    ·rw[if_pos e3,if_pos (by omega)]
    ·rw[if_neg e3,if_neg (by omega),if_neg (by omega),if_neg e1]
theorem pass_end(l:List Int)(hl:l.length=16)(j:Nat)(hj:j<16):
  (zL l 16).getD j 0=if j=0 then l.getD 0 0%65536+38*cy l 16 else(l.getD j 0+cy l j)%65536:=by
 have hlen:=AX l 15;have h0:=pass_at l hl 15 (by omega) 0 (by omega);rw[if_pos (by omega)]at h0;have h15:=pass_at l hl 15 (by omega) 15 (by omega);rw[if_neg (by omega),if_pos rfl]at h15;rw[zL,step,if_neg (by omega)];unfold put1;have e16:cy l 16=(l.getD 15 0+cy l 15)/65536:=rfl;by_cases e:j=0
 ·subst e;rw[aw _ _ _ (by rw[List.length_set];omega),getD_set_ne _ _ _ _ (by omega),h0,h15,if_pos rfl,e16];simp[cy]
 ·rw[getD_set_ne _ _ _ _ (by omega),if_neg e];by_cases e2:j=15
  ·subst e2;rw[aw _ _ _ (by omega),h15];omega
  ·rw[getD_set_ne _ _ _ _ (by omega),pass_at l hl 15 (by omega) j hj,if_pos (by omega)]
theorem cy_bd(l:List Int)(M:Int)(hM:131072≤M)(h:Bd M l)(i:Nat): -(M/32768)≤cy l i∧cy l i≤M/32768:=by
 induction i with
 |zero=>simp only[cy];omega
 |succ i ih=>have:=h i;simp only[cy];omega
def Good(l:List Int):Prop:=l.length=16∧ ∀i, -38≤l.getD i 0∧l.getD i 0≤65573
theorem Good.bd{l:List Int}(h:Good l):Bd 131072 l:=fun i=>by have:=h.2 i;omega
theorem Good.bd'{l:List Int}(h:Good l):Bd 562949953421312 l:=fun i=>by have:=h.2 i;omega
theorem Good.bd2{l:List Int}(h:Good l):Bd 1125899906842624 l:=fun i=>by have:=h.2 i;omega
theorem carry_good(l:List Int)(hl:l.length=16)(h:Bd 1125899906842624 l):Good (carry l):=by
 have h1: ∀j,j<16→(zL l 16).getD j 0=if j=0 then l.getD 0 0%65536+38*cy l 16 else(l.getD j 0+cy l j)%65536:=fun j hj=>pass_end l hl j hj
 have hc:=cy_bd l _ (by omega) h 16;have hl1:(zL l 16).length=16:=by rw[AX,hl]
 have hb0: -1305670057985*1≤(zL l 16).getD 0 0∧(zL l 16).getD 0 0≤1305670123520:=by
  rw[h1 0 (by omega),if_pos rfl];omega
 have hbj: ∀j,1≤j→j<16→0≤(zL l 16).getD j 0∧(zL l 16).getD j 0≤65535:=fun j h1j hj=>by
  rw[h1 j hj,if_neg (by omega)];omega
 have e:carry l=zL (zL l 16) 16:=rfl;generalize zL l 16=m at hb0 hbj hl1 e;have k1: -19922945≤cy m 1∧cy m 1≤19922945:=by simp only[cy];omega
 have k2: -305≤cy m 2∧cy m 2≤305:=by have:=hbj 1 (by omega) (by omega);rw[cy];omega
 have kk: ∀d,d≤13→ -1≤cy m (3+d)∧cy m (3+d)≤1:=fun d=>by
  induction d with
  |zero=>intro _;have:=hbj 2 (by omega) (by omega);show -1≤(m.getD 2 0+cy m 2)/65536∧(m.getD 2 0+cy m 2)/65536≤1;omega
  |succ d ih=>
   intro hd;have:=hbj (3+d) (by omega) (by omega);have:=ih (by omega);show -1≤(m.getD (3+d) 0+cy m (3+d))/65536∧(m.getD (3+d) 0+cy m (3+d))/65536≤1
   omega
 refine⟨by rw[e,AX,hl1],fun i=> ?_⟩;rw[e];by_cases hi:i<16
 ·rw[pass_end m hl1 i hi];have h16:=kk 13 (by omega);split
  ·have e3:cy m (3+13)=cy m 16:=rfl;rw[e3]at h16;omega
  ·omega
 ·rw[getD_ge _ _ (by rw[AX];omega)];omega
theorem tS(a b:List Int)(ha:Good a)(hb:Good b):Good (plus a b):=
 carry_good _ (by unfold add;rw[wM,ha.1]) (op_bd _ a b ha.1 _ (by omega) (fun i=>by have h1:=ha.2 i;have h2:=hb.2 i;show -1125899906842624≤a.getD i 0+b.getD i 0∧a.getD i 0+b.getD i 0≤1125899906842624;omega))
theorem tO(a b:List Int)(ha:Good a)(hb:Good b):Good (minus a b):=
 carry_good _ (by unfold sub;rw[wM,ha.1]) (op_bd _ a b ha.1 _ (by omega) (fun i=>by have h1:=ha.2 i;have h2:=hb.2 i;show -1125899906842624≤a.getD i 0 - b.getD i 0∧a.getD i 0 - b.getD i 0≤1125899906842624;omega))
theorem tN(a b:List Int)(ha:Good a)(hb:Good b):Good (by_ a b):=
 carry_good _ (yv _ _) ((foldTo_bd _ 16 ((zK a b 16 ha.bd hb.bd).mono (by omega))).1.mono (by omega))
theorem vu(n:Int)(h0: -38≤n)(h1:n≤65573):Good (small n):=⟨rfl,fun i=>by
 unfold small;by_cases e:0=i
 ·subst e;rw[aw _ _ _ (by decide)];omega
 ·rw[getD_set_ne _ _ _ _ e];show -38≤(List.replicate 16 (0:Int)).getD i 0∧(List.replicate 16 (0:Int)).getD i 0≤65573
  rw[AA];omega⟩
end Fd
def OwnI(w:World)(base:Nat)(v:Value)(l:List Int):Prop:=
 (v= .slice none 0 0∧l= [])∨
 ∃(g cap:Nat) (cur:Array Value),v= .slice (some ⟨g,0,none⟩) l.length cap∧base≤g∧w.heap[g]? =some (.cells cur 3 (0,0))∧cur.size=cap∧l.length≤cap∧cur.toList.take l.length=(Ns l).toList
theorem OwnI.below{w w':World}{base B:Nat}{v:Value}{l:List Int}(h:OwnI w base v l)(hb:Below B w w')(hB:w.heap.size≤B):OwnI w' base v l:=by
 rcases h with h|⟨g,cap,cur,hv,hg,hh,r⟩
 ·exact .inl h
 ·refine .inr ⟨g,cap,cur,hv,hg,?_,r⟩;have:g<w.heap.size:=(Array.getElem?_eq_some_iff.1 hh).1;rw[hb.block g (by omega)];exact hh
theorem OwnI.keep{w w':World}{base:Nat}{v:Value}{l:List Int}(h:OwnI w base v l)(hb:Below w.heap.size w w'):OwnI w' base v l:=h.below hb nR
theorem Tryz.infoInt:(Tryz.prog.info? 3).map (fun i=>(i.zero,i.size,i.bytes))=some (some (.int .i64 0),1,8):=by kernel_rfl
theorem lk{w:World}{base:Nat}{v:Value}{l:List Int}(h:OwnI w base v l)(ns:List Int)(g1 c1:Nat)(hx: ∀i,i<ns.length→w.cell? ⟨g1,i,none⟩=some (.int .i64 (ns.getD i 0)))(hn:0<ns.length)(hb:base≤w.heap.size)(hl:l.length+ns.length<1000000):
  ∃v' w',(Builtin.append_ #[150,150] 150 #[v,.slice (some ⟨g1,0,none⟩) ns.length c1]).run Tryz.prog w= .ok v' w'∧OwnI w' base v' (l++ns)∧Below base w w':=by
 obtain⟨i,hi,hzz⟩:=Option.map_eq_some_iff.1 Tryz.infoInt;simp only[Prod.mk.injEq]at hzz;obtain⟨hz,hs,hby⟩:=hzz;have Cw: ∀u∈(Ns ns).toList,u.oneCell'=true:=fun u hu=>(Array.all_eq_true_iff_forall_mem.1 (aN ns)) u (by simpa using hu)
 have hnl:(Ns ns).toList.length=ns.length:=by simp[Ns]
 have hsrc:Src Tryz.prog i.size 150 (.slice (some ⟨g1,0,none⟩) ns.length c1) ns.length (Ns ns).toList w:=by
  rw[hs];refine Src.ofSlice w Tryz.underlying150 _ ns.length c1 _ (by rw[hnl,Nat.mul_one]) ?_ Cw;intro j u hu;have hj:j<ns.length:=by have:=(List.getElem?_eq_some_iff.1 hu).1;omega
  have Cs:(⟨g1,0,none⟩:Addr).add j=⟨g1,j,none⟩:=by unfold Addr.add;split<;>simp_all
  rw[Cs,hx j hj,←hu];have:=bf ns j hj;rw[←this];simp
 have grow: ∀(a:Option Addr) (n cap:Nat),n=l.length→(Builtin.firstCells i.size n (.slice a n cap)).run Tryz.prog w.drew= .ok (Ns l).toList.toArray w.drew→ ¬n+ns.length≤cap→
   ∃v' w',(Builtin.append_ #[150,150] 150 #[.slice a n cap,.slice (some ⟨g1,0,none⟩) ns.length c1]).run Tryz.prog w= .ok v' w'∧OwnI w' base v' (l++ns)∧Below base w w':=by
  intro a n cap hnn hold hroom;subst hnn;have hr:=run_append_grow_src (P:=Tryz.prog) w 150 150 150 3 i _ Tryz.underlying150 hi hz a l.length cap (Ns l).toList hold _ ns.length _ hsrc (by omega) (by omega)
   (by rw[hby];exact growslice_fits (by omega) (by omega))
  refine⟨_,_,hr,.inr ?_,bR.drew.alloc hb _⟩;have hge:=grownCap_ge w (l.length+ns.length) cap 3;refine⟨w.heap.size,grownCap w (l.length+ns.length) cap 3,_,by simp,hb,heap_alloc_new w.drew _,?_,by simpa using hge,?_⟩
  ·simp[Ns,Builtin.zeroCells,Value.cells];omega
  ·have e1:(l++ns).length=l.length+ns.length:=by simp
   have e2:((Ns l).toList++(Ns ns).toList).length=l.length+ns.length:=by simp[Ns]
   rw[e1,Array.toList_append,List.take_append_of_le_length (Nat.le_of_eq e2.symm),List.take_of_length_le (Nat.le_of_eq e2)];simp[Ns]
 rcases h with ⟨rfl,rfl⟩|⟨g,cap,cur,rfl,hg,hh,hcap,hlc,ht⟩
 ·refine grow none 0 0 rfl ?_ (by omega);rw[run_firstCells_none];rfl
 ·by_cases hroom:l.length+ns.length≤cap
  ·have hst:=run_append_room_src (P:=Tryz.prog) w 150 150 150 3 i Tryz.underlying150 hi g 0 l.length cap _ ns.length _ hsrc hroom
    (by intro j hj;rw[hs,cell_of_row w g _ cur _ (0,0) hh];simp;omega)
    (by intro j hj;exact frozen_of_row w g _ cur _ hh)
   have he:w.setCells g (0+l.length*i.size) (Ns ns).toList=w.setRow g (cur.toList.take l.length++(Ns ns).toList++cur.toList.drop (l.length+ns.length)).toArray:=by
    have r1:=run_storeCells_at Tryz.prog g l.length 3 (Ns ns).toList 0 cur w hh (by rw[hnl];omega) Cw;have r2:=run_storeCells_cells (P:=Tryz.prog) g l.length (Ns ns).toList 0 w (fun j hj=>by simp only[Nat.add_zero];rw[cell_of_row w g _ cur _ (0,0) hh];simp;omega) (fun j hj=>frozen_of_row w g _ cur _ hh) Cw;rw[r2]at r1;have r3:=(Result.ok.inj r1).2;rw[hs,Nat.mul_one,Nat.zero_add];simp only[Nat.add_zero,hnl]at r3;exact r3
   refine⟨_,_,hst,.inr ?_,?_⟩
   ·rw[he];refine⟨g,cap,_,by simp,hg,setRow_heap w g cur _ _ (0,0) hh,?_,by simpa using hroom,?_⟩
    ·simp[Ns];omega
    ·have e2:(cur.toList.take l.length++(Ns ns).toList).length=l.length+ns.length:=by simp[Ns];omega
     have e1:(l++ns).length=l.length+ns.length:=by simp
     rw[e1];show((cur.toList.take l.length++(Ns ns).toList)++cur.toList.drop (l.length+ns.length)).take (l.length+ns.length)=_
     rw[List.take_append_of_le_length (Nat.le_of_eq e2.symm),List.take_of_length_le (Nat.le_of_eq e2),ht];simp[Ns]
   ·rw[he];exact below_setRow bR hg _
  ·refine grow _ _ _ rfl ?_ hroom;rw[hs];refine run_firstCells_some w.drew 1 l.length _ l.length cap _ (by simp[Ns]) ?_;intro j u hu;have hj:j<l.length:=by
    have:=(List.getElem?_eq_some_iff.1 hu).1;simpa [Ns]using this
   have Cs:(⟨g,0,none⟩:Addr).add j=⟨g,j,none⟩:=by unfold Addr.add;split<;>simp_all
   rw[Cs];have h2:(cur.toList.take l.length)[j]? =(Ns l).toList[j]? :=by rw[ht]
   rw[List.getElem?_take_of_lt hj,hu]at h2;show w.cell? _=_
   rw[cell_of_row w g j cur _ (0,0) hh];simpa using h2
theorem OwnI.cell{w:World}{base g n cap:Nat}{l:List Int}(h:OwnI w base (.slice (some ⟨g,0,none⟩) n cap) l)(i:Nat)(hi:i<l.length):w.cell? ⟨g,i,none⟩=some (.int .i64 (l.getD i 0)):=by
 rcases h with ⟨hv,_⟩|⟨g',cap',cur,hv,hg,hh,hc,hl,ht⟩
 ·cases hv
 ·injection hv with h1 _ _
  injection h1 with h1
  injection h1 with h1 _ _
  subst h1;rw[cell_of_row w g i cur _ (0,0) hh];have h2:(cur.toList.take l.length)[i]? =(Ns l)[i]? :=by rw[ht];simp
  rw[List.getElem?_take_of_lt hi,bf l i hi]at h2;simpa using h2
def Fd.ones(last:List Int)(many:Nat):List Int:=List.replicate (many - last.length) 1++last
theorem jH(last:List Int)(m:Int)(many g0 c0:Nat)(w:World)(hm:m=(many:Int))(hmany:many≤1000)(hll:last.length<many)(hl0:0<last.length)(hb0: ∀i,i<last.length→w.cell? ⟨g0,i,none⟩=some (.int .i64 (last.getD i 0))):
  Calls Tryz.prog 144 #[.slice (some ⟨g0,0,none⟩) last.length c0,.int .i64 m] w fun e w'=> ∃g cap,e= .returned (.slice (some ⟨g,0,none⟩) many cap)∧OwnI w' w.heap.size (.slice (some ⟨g,0,none⟩) many cap) (Fd.ones last many)∧Below w.heap.size w w':=by
 subst hm;have hg0:g0<w.heap.size:=block_lt_of_cell (hb0 0 hl0);have HB0:Hid (∀i,i<last.length→w.cell? ⟨g0,i,none⟩=some (.int .i64 (last.getD i 0))):=hb0;clear hb0;have HO:Hid (Fd.ones last many=List.replicate (many - last.length) 1++last):=rfl;generalize Fd.ones last many=O at HO⊢;generalize hLn:last.length=n0 at hll hl0 HB0 HO⊢;have HLN:Hid _:=hLn;clear hLn;go_enter Tryz.func144,Tryz.ntmps144;go_wp2;go_loopw [5] (fun v wr=> ∃k:Nat,k≤many - n0∧OwnI wr w.heap.size v (List.replicate k 1)∧Below w.heap.size w wr) (fun v _=>many - n0 - bI v)
 case atStart=>exact⟨0,by omega,.inl ⟨rfl,rfl⟩,Below.refl _ _⟩
 case round=>
  obtain⟨k,hk,BV,BI⟩:=hrel;obtain⟨a,cap,hv⟩: ∃a cap,u5= .slice a k cap:=by
   rcases BV with ⟨rfl,h⟩|⟨g,cap,cur,rfl,_⟩
   ·have:k=0:=by have:=congrArg List.length h;simpa using this
    subst this;exact⟨_,_,rfl⟩
   ·exact⟨some ⟨g,0,none⟩,cap,by simp⟩
  subst hv;by_cases hlt:k<many - n0
  ·have hx:(wr.alloc (.cells #[.int .i64 1] 3)).cell? ⟨wr.heap.size,0,none⟩=some (.int .i64 1):=by
    rw[(Blk.new wr #[.int .i64 1] 3).cell 0];rfl
   obtain⟨v3,w3,hap,hown3,hb3⟩:=lk (BV.keep ((Below.refl wr.heap.size wr).alloc nR (.cells #[.int .i64 1] 3))) [1] wr.heap.size 1 (by intro i hi;match i,hi with|0,_=>exact hx) (by simp) (by simp;have:=BI.size;omega) (by simp;omega);rw[show List.replicate k (1:Int)++ [1]=List.replicate (k+1) 1 by rw[List.replicate_succ']]at hown3;have HAP:Hid _:=hap;clear hap;have BT:Below w.heap.size w w3:=(BI.alloc BI.size _).trans hb3;have hl3:bI v3=k+1:=by
    rcases hown3 with ⟨_,h⟩|⟨_,_,_,rfl,_⟩
    ·simp at h
    ·simp[bI]
   have i0:(k:Int)<(many:Int) - (n0:Int):=by omega
   go_wp2_with (at_builtin;refine Lib.wpList_append_run _ rfl _ _ _ _ rfl _ _ rfl rfl _ _ HAP.out ?_);go_roundw
   case rel=>exact⟨k+1,by omega,hown3,BT⟩
   case measure=>rw[hl3];simp only[bI];omega
  ·have hkk:k=many - n0:=by omega
   have i0: ¬(k:Int)<(many:Int) - (n0:Int):=by omega
   obtain⟨v3,w3,hap,hown3,hb3⟩:=lk BV last g0 c0 (by intro i hi;rw[BI.cell (p:=⟨g0,i,none⟩) hg0];exact HB0.out i (by have:=HLN.out;omega)) (by have:=HLN.out;omega) BI.size (by simp;have:=HLN.out;omega);rw[show last.length=n0 from HLN.out]at hap;rw[hkk,←show O=_ from HO.out]at hown3;have hOl:O.length=many:=by rw[show O=_ from HO.out];simp;have:=HLN.out;omega
   obtain⟨g,cap3,hv3⟩: ∃g cap,v3= .slice (some ⟨g,0,none⟩) many cap:=by
    rcases hown3 with ⟨_,h⟩|⟨g,cap,_,rfl,_⟩
    ·rw[h]at hOl;simp at hOl;omega
    ·exact⟨g,cap,by rw[hOl]⟩
   subst hv3;have HAP:Hid _:=hap;clear hap;go_wp2_with (at_builtin;refine Lib.wpList_append_run _ rfl _ _ _ _ rfl _ _ rfl rfl _ _ HAP.out ?_);go_ret;exact⟨g,cap3,rfl,hown3,BI.trans hb3⟩
end Go.Proofs.YtclpbaokadfhhaaGreatDoor
