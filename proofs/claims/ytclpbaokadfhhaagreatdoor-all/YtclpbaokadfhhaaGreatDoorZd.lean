import Derived.Test.YtclpbaokadfhhaaGreatDoorXr
import Derived.Deep.AppendSrc
import Derived.Lib.AppendZeros
set_option maxRecDepth 100000
set_option maxHeartbeats 4000000
open List renaming replicate->Qa,length_set->Qc,getD->Qd,take_append_of_le_length->Qe,getElem?_eq_some_iff->Qf,getElem?_take_of_lt->Qg,take_of_length_le->Qi
open Go.Obj renaming cells->Qj
open Go.IntKind renaming i64->Qk,wrap_i64->Qm
open Go renaming World->Qn,wpList_store_row->Qo,wpList_load_row->Qp,bodyPost_ret->Qq,below_setRow->Qt,Value->Qx,cell_of_row->Qy,wpList->Qz,frozen_of_row->QA
open Go.Value renaming int->QB,slice->QC,agg->QD
open Go.Proofs.Tryz renaming prog->QE,underlying59->QF,underlying150->QG
open Go.RowKit renaming Below->QJ,intOf->QL
open Nat renaming le_of_eq->QM,add_zero->QN,mul_one->QO
open Int renaming mul_nonneg->QP
open Array renaming all_eq_true_iff_forall_mem->QQ
namespace Go.Proofs.YtclpbaokadfhhaaGreatDoor
open Go.RowKit
open Blk renaming alloc->QH,new->QI
def Ns(l:List Int):Array Qx:=(l.map (QB Qk)).toArray
theorem jn(l:List Int):(Ns l).size=l.length:=by simp[Ns]
theorem Nz{l:List Int}{n:Nat}(h:l.length=n):(Ns l).size=n:=by rw[jn,h]
theorem mu(l:List Int)(i:Nat)(h:i<l.length):(Ns l)[i]? =some (QB Qk (l.getD i 0)):=by
 simp[Ns,Qd,List.getElem?_eq_getElem h]
theorem BI(l:List Int)(i:Nat)(x:Int):(Ns l).setIfInBounds i (QB Qk x)=Ns (l.set i x):=by
 simp[Ns,List.map_set]
theorem aK(l:List Int):(Ns l).all (·.oneCell')=true:=by
 rw[QQ];intro v a;simp only[Ns,List.mem_toArray,List.mem_map]at a;obtain⟨x,_,rfl⟩:=a;rfl
theorem dF(l:List Int)(i:Nat)(x:Int)(h:i<l.length):(l.set i x).getD i 0=x:=by simp[Qd,h]
theorem jg(l:List Int)(i j:Nat)(x:Int)(h:i≠j):(l.set i x).getD j 0=l.getD j 0:=by simp[Qd,h]
def Fd_Bd(M:Int)(l:List Int):Prop:= ∀i, -M<=l.getD i 0/\l.getD i 0<=M
theorem Fd_Bd.mono{M N:Int}{l:List Int}(h:Fd_Bd M l)(a:M<=N):Fd_Bd N l:=λi=>⟨by have:=(h i).1;omega,by have:=(h i).2;omega⟩
theorem Fd_Bd.set{M:Int}{l:List Int}(h:Fd_Bd M l)(i:Nat)(x:Int)(a: -M<=x)(h2:x<=M):Fd_Bd M (l.set i x):=λj=>by
 by_cases e:i=j
 .subst e;by_cases b:i<l.length
  .rw[dF _ _ _ b];exact⟨a,h2⟩
  .rw[List.set_eq_of_length_le oo];exact h i
 .rw[jg _ _ _ _ e];exact h j
def iT(l:List Int)(i:Nat):List Int:=l.set i (l.getD i 0-l.getD i 0/65536*65536)
def kD(l:List Int)(i:Nat):List Int:=
 if i<15 then(iT l i).set (i+1) ((iT l i).getD (i+1) 0+l.getD i 0/65536)else (iT l i).set 0 ((iT l i).getD 0 0+38*(l.getD i 0/65536))
def cB(l:List Int):Nat->List Int
 |0=>l
 |i+1=>kD (cB l i) i
def gS(l:List Int):Nat->List Int
 |0=>l
 |k+1=>cB (gS l k) 16
def bO(l:List Int):List Int:=gS l 2
theorem BZ(l:List Int)(i:Nat):(iT l i).length=l.length:=by simp[iT]
theorem Lf(l:List Int)(i:Nat):(kD l i).length=l.length:=by unfold kD;split<;>simp[BZ]
theorem fg(l:List Int)(i:Nat):(cB l i).length=l.length:=by
 induction i with
 |zero=>rfl
 |succ i a=>rw[cB,Lf,a]
theorem nw(l:List Int)(i:Nat):(gS l i).length=l.length:=by
 induction i with
 |zero=>rfl
 |succ i a=>rw[gS,fg,a]
theorem Uv(l:List Int)(i:Nat)(j:Int)(h0:0<=j)(c:j<=32)(h:Fd_Bd (1125899906842624+j*2199023255552) l):Fd_Bd (1125899906842624+(j+1)*2199023255552) (kD l i):=by
 have b:=h i;have a:Fd_Bd (1125899906842624+(j+1)*2199023255552) (iT l i):=(h.mono oo).set _ _ oo oo;have h2:=λk=>(h.set i (l.getD i 0-l.getD i 0/65536*65536) oo oo) k
 unfold kD;split
 .have:=h2 (i+1);exact a.set _ _ (by unfold iT;omega) (by unfold iT;omega)
 .have:=h2 0;exact a.set _ _ (by unfold iT;omega) (by unfold iT;omega)
theorem Kj(l:List Int)(k:Int)(d:0<=k)(c:k<=16)(h:Fd_Bd (1125899906842624+k*2199023255552) l)(i:Nat)(b:i<=16):Fd_Bd (1125899906842624+(k+i)*2199023255552) (cB l i):=by
 induction i with
 |zero=>rw[cB];simpa using h
 |succ i a=>
  have:=Uv (cB l i) i (k+i) oo oo (a oo);rw[cB];have e:k+(i:Int)+1=k+((i+1:Nat):Int):=oo
  rwa [e]at this
theorem Pa(l:List Int)(h:Fd_Bd 1125899906842624 l)(k i:Nat)(b:k<=1)(a:i<=16):Fd_Bd 1196268651020288 (cB (gS l k) i):=by
 have h0:Fd_Bd (1125899906842624+((16*k:Nat):Int)*2199023255552) (gS l k):=by
  match k,b with
  |0,_=>rw[gS];simpa using h
  |1,_=>
   have:=Kj l 0 oo oo (by simpa using h) 16 oo;simpa [gS]using this
 exact(Kj _ _ oo oo h0 i a).mono oo
theorem Tryz.info16:(QE.info? 59).map (·.size)=some 16:=kr
theorem t59:Ty 59 16:=⟨_,QF,rfl,Tryz.info16⟩
theorem ldN{c:Array Oper}{rest:List Oper}{o:Oper}{a:Act}{w:Qn}{Q:Exit->Act->Qn->Prop}(e:o.guard=none){x:Operand}(f:o.op=.load 59 x)(g:Nat)(j:a.eval x=.pointer (some ⟨g,0,none⟩)){b:Array Qx}
  (d:w.heap[g]? =some (Qj b 59 (0,0))) (i:b.size=16) (h:Qz QE c Q rest (a.put o.dst (QD b)) w):Qz QE c Q (o::rest) a w:=
 Qp e 59 x f g j 59 b (0,0) _ d QF rfl (by rw[i];exact Tryz.info16) h
theorem stN{d:Array Oper}{rest:List Oper}{o:Oper}{a:Act}{w:Qn}{Q:Exit->Act->Qn->Prop}(f:o.guard=none){x y:Operand}(i:o.op=.store 59 x y)(g:Nat)(k:a.eval x=.pointer (some ⟨g,0,none⟩)){l:List Int}(m:a.eval y=QD (Ns l)){b:Array Qx}
  (e:w.heap[g]? =some (Qj b 59 (0,0))) (c:(Ns l).size=16) (j:b.size=16) (h:Qz QE d Q rest (a.put o.dst undef) (w.setRow g (Ns l))):Qz QE d Q (o::rest) a w:=
 Qo f 59 x y i g _ k m 59 b e (by rw[c];exact Tryz.info16) (by rw[c,j]) (aK _) h
def Fd_none16:List Int:=Qa 16 0
theorem oe(w:Qn):Sem.run QE (zeroValue 59) w=.ok (QD (Ns Fd_none16)) w:=kr
theorem XJ{w wr:Qn}{B t j:Nat}{r:List Int}(a:Blk wr B (Ns r) t)(k:j<15)(f:w.heap.size<=B)(h:QJ w.heap.size w wr)(x y:Int)(l:r.getD j 0=x)(m:r.getD (j+1) 0=y):
  Blk ((wr.setCell ⟨B,j,none⟩ (QB Qk (x-x/65536*65536))).setCell ⟨B,j+1,none⟩ (QB Qk (y+x/65536))) B (Ns (kD r j)) t/\
  (∀b' b c,b'≠B->Blk wr b' b c->Blk ((wr.setCell ⟨B,j,none⟩ (QB Qk (x-x/65536*65536))).setCell ⟨B,j+1,none⟩ (QB Qk (y+x/65536))) b' b c)/\
  QJ w.heap.size w ((wr.setCell ⟨B,j,none⟩ (QB Qk (x-x/65536*65536))).setCell ⟨B,j+1,none⟩ (QB Qk (y+x/65536))):=by
 subst l m;refine⟨?_,?_,(h.setCell f _).setCell f _⟩
 .rw[a.set,BI];have d:=a.row (Ns (r.set j (r.getD j 0-r.getD j 0/65536*65536)));rw[d.set,BI];have e:kD r j=(r.set j (r.getD j 0-r.getD j 0/65536*65536)).set (j+1) (r.getD (j+1) 0+r.getD j 0/65536):=by
   unfold kD iT;rw[if_pos k,jg _ _ _ _ oo]
  rw[e];exact d.row _
 .intro b' b c g i;rw[a.set,(a.row _).set];exact(i.other g _).other g _
theorem VE{w wr:Qn}{B t:Nat}{r:List Int}(a:Blk wr B (Ns r) t)(f:w.heap.size<=B)(h:QJ w.heap.size w wr)(x y:Int)(j:r.getD 15 0=x)(k:r.getD 0 0=y):
  Blk ((wr.setCell ⟨B,15,none⟩ (QB Qk (x-x/65536*65536))).setCell ⟨B,0,none⟩ (QB Qk (y+38*(x/65536)))) B (Ns (kD r 15)) t/\
  (∀b' b c,b'≠B->Blk wr b' b c->Blk ((wr.setCell ⟨B,15,none⟩ (QB Qk (x-x/65536*65536))).setCell ⟨B,0,none⟩ (QB Qk (y+38*(x/65536)))) b' b c)/\
  QJ w.heap.size w ((wr.setCell ⟨B,15,none⟩ (QB Qk (x-x/65536*65536))).setCell ⟨B,0,none⟩ (QB Qk (y+38*(x/65536)))):=by
 subst j k;refine⟨?_,?_,(h.setCell f _).setCell f _⟩
 .rw[a.set,BI];have d:=a.row (Ns (r.set 15 (r.getD 15 0-r.getD 15 0/65536*65536)));rw[d.set,BI];have e:kD r 15=(r.set 15 (r.getD 15 0-r.getD 15 0/65536*65536)).set 0 (r.getD 0 0+38*(r.getD 15 0/65536)):=by
   unfold kD iT;rw[if_neg oo,jg _ _ _ _ oo]
  rw[e];exact d.row _
 .intro b' b c g i;rw[a.set,(a.row _).set];exact(i.other g _).other g _
theorem xS(l:List Int)(w:Qn)(t:l.length=16)(B:Fd_Bd 1125899906842624 l):
  Rw 143 #[QD (Ns l)] w (QD (Ns (bO l))):=by
 have X:=Nz t;have Z:=oe;have a:Blk ((w.alloc (Qj (Ns l) 59)).alloc (Qj (Ns Fd_none16) 59)) w.heap.size (Ns l) 59:=heap_alloc2_old w _ _;have b:Blk ((w.alloc (Qj (Ns l) 59)).alloc (Qj (Ns Fd_none16) 59)) (w.heap.size+1) (Ns Fd_none16) 59:=heap_alloc2_new w _ _;have c:QJ w.heap.size w ((w.alloc (Qj (Ns l) 59)).alloc (Qj (Ns Fd_none16) 59)):=(bR.alloc nR _).alloc ss _;have C:=Qh B;clear B;have u:Hid (bO l=gS l 2):=rfl;generalize bO l=R at u|-;go_enter Tryz.func143,Tryz.ntmps143;go_wp2;generalize (w.alloc (Qj (Ns l) 59)).alloc (Qj (Ns Fd_none16) 59)=w1 at a b c|-;go_loopw [3] (λi wr=> ∃k:Nat,k<=2/\i=QB Qk k/\Blk wr w.heap.size (Ns (gS l k)) 59/\Blk wr (w.heap.size+1) (Ns Fd_none16) 59/\QJ w.heap.size w wr) (λi _=>2-(QL i).toNat)
 case atStart=>exact⟨0,oo,rfl,a,b,c⟩
 case round=>
  clear a b c;obtain⟨k,T,rfl,a,b,c⟩:=hrel;by_cases W:k<2
  .have i0:(k:Int)<2:=oo
   go_wp2;go_loopw [4] (λi wr=> ∃j:Nat,j<=16/\i=QB Qk j/\Blk wr w.heap.size (Ns (cB (gS l k) j)) 59/\Blk wr (w.heap.size+1) (Ns Fd_none16) 59/\QJ w.heap.size w wr) (λi _=>16-(QL i).toNat)
   case atStart=>exact⟨0,oo,rfl,a,b,c⟩
   case round=>
    clear a b c;obtain⟨j,Q,rfl,a,b,c⟩:=hrel;by_cases S:j<16
    .have j0:(j:Int)<16:=oo
     have g:=Pa l C.out k j oo oo;have p:(cB (gS l k) j).length=16:=by rw[fg,nw,t]
     have q:Hid (cB (gS l k) (j+1)=kD (cB (gS l k) j) j):=rfl;generalize cB (gS l k) j=r at g p q a;have s:=a.cell j;rw[mu _ _ oo]at s;have P:=a.frozen j;have e:=g j;by_cases G:j<15
     .have j1:(j:Int)<15:=oo
      have h:=a.cell (j+1);rw[mu _ _ oo]at h;have F:=a.frozen (j+1);have d:=g (j+1);have O:∀v:Qx,(wr.setCell ⟨w.heap.size,j,none⟩ v).cell? ⟨w.heap.size,j+1,none⟩=wr.cell? ⟨w.heap.size,j+1,none⟩:=λv=>mi _ _ _ _ _ oo
      have R:=λx y e d=>XJ (w:=w) (j:=j) a G nR c x y e d
      generalize m:r.getD j 0=x at s e R;generalize n:r.getD (j+1) 0=y at h d R;have f:=R x y rfl rfl;clear R;obtain⟨K,L⟩:=e;obtain⟨M,N⟩:=d;have D:=Qh m;have E:=Qh n;clear m n g;go_wp2;go_roundw
      case rel=>
       refine⟨j+1,oo,gn,?_,f.2.1 _ _ _ oo b,f.2.2⟩;rw[show cB (gS l k) (j+1)=kD r j from q.out];exact f.1
      case measure=>simp[QL];omega
     .have H:j=15:=oo
      subst H;rw[show ((15:Nat):Int)=15 from rfl];have h:=a.cell 0;rw[mu _ _ oo]at h;have F:=a.frozen 0;have d:=g 0;have O:∀v:Qx,(wr.setCell ⟨w.heap.size,15,none⟩ v).cell? ⟨w.heap.size,0,none⟩=wr.cell? ⟨w.heap.size,0,none⟩:=λv=>mi _ _ _ _ _ oo
      have R:=λx y e d=>VE (w:=w) a nR c x y e d
      generalize m:r.getD 15 0=x at s e R;generalize n:r.getD 0 0=y at h d R;have f:=R x y rfl rfl;clear R;obtain⟨K,L⟩:=e;obtain⟨M,N⟩:=d;have D:=Qh m;have E:=Qh n;clear m n g;go_wp2;go_roundw
      case rel=>
       refine⟨16,oo,gn,?_,f.2.1 _ _ _ oo b,f.2.2⟩;rw[show cB (gS l k) 16=kD r 15 from q.out];exact f.1
      case measure=>simp[QL]
    .have I:j=16:=oo
     subst I;rw[show ((16:Nat):Int)=16 from rfl];go_wp2;go_roundw
     case rel=>exact⟨k+1,oo,gn,a,b,c⟩
     case measure=>simp[QL];omega
  .have J:k=2:=oo
   subst J;have p:(gS l 2).length=16:=by rw[nw,t]
   rw[<-show R=gS l 2 from u.out]at a p;have z:=a;have A:=b;unfold Blk at z A;have o:=Nz p;go_wp2_with (first
    |(refine Qp rfl 59 _ rfl w.heap.size rfl 59 _ (0,0) _ z QF rfl ?V ?_)
    |(refine Qo rfl 59 _ _ rfl (w.heap.size+1) _ rfl rfl 59 _ A ?h2 ?U ?Y ?_))
   case V=>rw[o];exact Tryz.info16
   case h2=>rw[o];exact Tryz.info16
   case U=>rw[o];rfl
   case Y=>exact aK _
   refine Qq (v:=QD (Ns R)) ?_ rfl ⟨rfl,Qt c oo _⟩;exact rr t59 rfl rfl (b.row _) o
def iU(f:Int->Int->Int)(a b:List Int):Nat->List Int
 |0=>a
 |k+1=>(iU f a b k).set k (f (a.getD k 0) (b.getD k 0))
theorem jo(f:Int->Int->Int)(a b:List Int)(k:Nat):(iU f a b k).length=a.length:=by
 induction k with
 |zero=>rfl
 |succ k c=>rw[iU,Qc,c]
theorem wj(f:Int->Int->Int)(a b:List Int)(k i:Nat)(e:k<=a.length)(d:i<a.length):(iU f a b k).getD i 0=if i<k then f (a.getD i 0) (b.getD i 0)else a.getD i 0:=by
 induction k with
 |zero=>rfl
 |succ k c=>
  rw[iU];by_cases h:k=i
  .subst h;rw[dF _ _ _ (by rw[jo];omega),if_pos oo]
  .rw[jg _ _ _ _ h,c oo];by_cases h2:i<k
   .rw[if_pos h2,if_pos oo]
   .rw[if_neg h2,if_neg oo]
def B5(a b:List Int):List Int:=iU (· + ·) a b 16
def BX(a b:List Int):List Int:=iU (· - ·) a b 16
theorem yT(l:List Int)(i:Nat)(h:l.length<=i):l.getD i 0=0:=by simp[Qd,List.getElem?_eq_none h]
theorem C5(f:Int->Int->Int)(a b:List Int)(e:a.length=16)(M:Int)(d:0<=M)(h:∀i, -M<=f (a.getD i 0) (b.getD i 0)/\f (a.getD i 0) (b.getD i 0)<=M):Fd_Bd M (iU f a b 16):=λi=>by
 by_cases c:i<16
 .rw[wj f a b 16 i oo oo,if_pos c];exact h i
 .rw[yT _ _ (by rw[jo];omega)];omega
def aJ(a b:List Int):List Int:=bO (B5 a b)
def au(a b:List Int):List Int:=bO (BX a b)
theorem Nt{w wr:Qn}{B k t:Nat}{a b:List Int}{f:Int->Int->Int}{v:Int}(d:Blk wr B (Ns (iU f a b k)) t)(i:w.heap.size<=B)(g:QJ w.heap.size w wr)(l:v=f (a.getD k 0) (b.getD k 0)):
  Blk (wr.setCell ⟨B,k,none⟩ (QB Qk v)) B (Ns (iU f a b (k+1))) t/\(∀b' c e,b'≠B->Blk wr b' c e->Blk (wr.setCell ⟨B,k,none⟩ (QB Qk v)) b' c e)/\QJ w.heap.size w (wr.setCell ⟨B,k,none⟩ (QB Qk v)):=by
 subst l;refine⟨?_,?_,g.setCell i _⟩
 .rw[d.set,BI];exact d.row _
 .intro b' c e j h;rw[d.set];exact h.other j _
theorem Xq(a b:List Int)(w:Qn)(s:a.length=16)(I:b.length=16)(m:Fd_Bd 562949953421312 a)(n:Fd_Bd 562949953421312 b):
  Rw 80 #[QD (Ns a),QD (Ns b)] w (QD (Ns (aJ a b))):=by
 have S:=Nz s;have T:=Nz I;have hz:=oe;have c:=QH (QH (QI w (Ns a) 59) (Qj (Ns b) 59)) (Qj (Ns Fd_none16) 59);have g:=QH (QI (w.alloc (Qj (Ns a) 59)) (Ns b) 59) (Qj (Ns Fd_none16) 59);have d:=QI ((w.alloc (Qj (Ns a) 59)).alloc (Qj (Ns b) 59)) (Ns Fd_none16) 59;have f:QJ w.heap.size w (((w.alloc (Qj (Ns a) 59)).alloc (Qj (Ns b) 59)).alloc (Qj (Ns Fd_none16) 59)):=
  ((bR.alloc nR _).alloc ss _).alloc (by simp;omega) _
 rw[show (w.alloc (Qj (Ns a) 59)).heap.size=w.heap.size+1 by simp]at g;rw[show ((w.alloc (Qj (Ns a) 59)).alloc (Qj (Ns b) 59)).heap.size=w.heap.size+1+1 by simp]at d;have h:Hid (aJ a b=bO (iU (· + ·) a b 16)):=rfl;generalize aJ a b=R at h|-;go_enter Tryz.func80,Tryz.ntmps80;go_wp2;generalize ((w.alloc (Qj (Ns a) 59)).alloc (Qj (Ns b) 59)).alloc (Qj (Ns Fd_none16) 59)=w1 at c g d f|-;go_loopw [5] (λi wr=> ∃k:Nat,k<=16/\i=QB Qk k/\Blk wr w.heap.size (Ns (iU (· + ·) a b k)) 59/\Blk wr (w.heap.size+1) (Ns b) 59/\Blk wr (w.heap.size+1+1) (Ns Fd_none16) 59/\QJ w.heap.size w wr) (λi _=>16-(QL i).toNat)
 case atStart=>exact⟨0,oo,rfl,c,g,d,f⟩
 case round=>
  clear c g d f;obtain⟨k,P,rfl,c,g,d,f⟩:=hrel;by_cases Q:k<16
  .have i0:(k:Int)<16:=oo
   have A:=c.cell k;rw[mu _ _ (by rw[jo];omega),wj _ _ _ _ _ oo oo,if_neg oo]at A;have O:=c.frozen k;have B:=g.cell k;rw[mu _ _ oo]at B;have j:=λv K=>Nt (w:=w) (k:=k) (v:=v) c nR f K
   have C:=m k;have D:=n k;have M:=Qh m;have N:=Qh n;generalize a.getD k 0=x at A C j;generalize b.getD k 0=y at B D j;have l:=j (x+y) rfl;clear j;obtain⟨X,Z⟩:=C;obtain⟨ab,ad⟩:=D;have W:Qk.wrap (x+y)=x+y:=by rw[Qm];omega
   clear m n;go_wp2_with fail;go_region
   all_goals
    go_wp2;go_roundw
    case rel=>exact⟨k+1,oo,gn,l.1,l.2.1 _ _ _ oo g,l.2.1 _ _ _ oo d,l.2.2.drew⟩
    case measure=>simp[QL];omega
  .have F:k=16:=oo
   subst F;have o:(iU (· + ·) a b 16).length=16:=by rw[jo,s]
   have q:Fd_Bd 1125899906842624 (iU (· + ·) a b 16):=C5 _ a b s _ oo (λi=>by have h1:=m i;have h2:=n i;show -1125899906842624<=a.getD i 0+b.getD i 0/\a.getD i 0+b.getD i 0<=1125899906842624;omega);have u:(bO (iU (· + ·) a b 16)).length=16:=by unfold bO;rw[nw,o]
   generalize iU (· + ·) a b 16=r at c o q h u;rw[<-show R=bO r from h.out]at u;have E:=Qh q;clear q;have z:=c;unfold Blk at z;have G:=Nz o;have p:=Nz u;go_wp2_with (first
    |(go_at_call 143;refine(xS r _ o E.out).mono ?_;rw[<-show R=bO r from h.out];rintro e L ⟨rfl,t⟩;have H:L.heap[w.heap.size+1+1]? =_:=d.keep t)
    |(refine Qp rfl 59 _ rfl w.heap.size rfl 59 _ (0,0) _ z QF rfl ?h1 ?_)
    |(refine Qo rfl 59 _ _ rfl (w.heap.size+1+1) _ rfl rfl 59 _ H ?h2 ?U ?V ?_))
   case h1=>rw[G];exact Tryz.info16
   case h2=>rw[p];exact Tryz.info16
   case U=>rw[p];rfl
   case V=>exact aK _
   have J:=d.keep t;refine Qq (v:=QD (Ns R)) ?_ rfl ⟨rfl,Qt (f.trans (t.mono f.size)) oo _⟩;exact rr t59 rfl rfl (J.row _) p
theorem Vr(a b:List Int)(w:Qn)(s:a.length=16)(I:b.length=16)(m:Fd_Bd 562949953421312 a)(n:Fd_Bd 562949953421312 b):
  Rw 140 #[QD (Ns a),QD (Ns b)] w (QD (Ns (au a b))):=by
 have S:=Nz s;have T:=Nz I;have hz:=oe;have c:=QH (QH (QI w (Ns a) 59) (Qj (Ns b) 59)) (Qj (Ns Fd_none16) 59);have g:=QH (QI (w.alloc (Qj (Ns a) 59)) (Ns b) 59) (Qj (Ns Fd_none16) 59);have d:=QI ((w.alloc (Qj (Ns a) 59)).alloc (Qj (Ns b) 59)) (Ns Fd_none16) 59;have f:QJ w.heap.size w (((w.alloc (Qj (Ns a) 59)).alloc (Qj (Ns b) 59)).alloc (Qj (Ns Fd_none16) 59)):=
  ((bR.alloc nR _).alloc ss _).alloc (by simp;omega) _
 rw[show (w.alloc (Qj (Ns a) 59)).heap.size=w.heap.size+1 by simp]at g;rw[show ((w.alloc (Qj (Ns a) 59)).alloc (Qj (Ns b) 59)).heap.size=w.heap.size+1+1 by simp]at d;have h:Hid (au a b=bO (iU (· - ·) a b 16)):=rfl;generalize au a b=R at h|-;go_enter Tryz.func140,Tryz.ntmps140;go_wp2;generalize ((w.alloc (Qj (Ns a) 59)).alloc (Qj (Ns b) 59)).alloc (Qj (Ns Fd_none16) 59)=w1 at c g d f|-;go_loopw [5] (λi wr=> ∃k:Nat,k<=16/\i=QB Qk k/\Blk wr w.heap.size (Ns (iU (· - ·) a b k)) 59/\Blk wr (w.heap.size+1) (Ns b) 59/\Blk wr (w.heap.size+1+1) (Ns Fd_none16) 59/\QJ w.heap.size w wr) (λi _=>16-(QL i).toNat)
 case atStart=>exact⟨0,oo,rfl,c,g,d,f⟩
 case round=>
  clear c g d f;obtain⟨k,P,rfl,c,g,d,f⟩:=hrel;by_cases Q:k<16
  .have i0:(k:Int)<16:=oo
   have A:=c.cell k;rw[mu _ _ (by rw[jo];omega),wj _ _ _ _ _ oo oo,if_neg oo]at A;have O:=c.frozen k;have B:=g.cell k;rw[mu _ _ oo]at B;have j:=λv K=>Nt (w:=w) (k:=k) (v:=v) c nR f K
   have C:=m k;have D:=n k;have M:=Qh m;have N:=Qh n;generalize a.getD k 0=x at A C j;generalize b.getD k 0=y at B D j;have l:=j (x-y) rfl;clear j;obtain⟨X,Z⟩:=C;obtain⟨ab,ad⟩:=D;have W:Qk.wrap (x-y)=x-y:=by rw[Qm];omega
   clear m n;go_wp2_with fail;go_region
   all_goals
    go_wp2;go_roundw
    case rel=>exact⟨k+1,oo,gn,l.1,l.2.1 _ _ _ oo g,l.2.1 _ _ _ oo d,l.2.2.drew⟩
    case measure=>simp[QL];omega
  .have F:k=16:=oo
   subst F;have o:(iU (· - ·) a b 16).length=16:=by rw[jo,s]
   have q:Fd_Bd 1125899906842624 (iU (· - ·) a b 16):=C5 _ a b s _ oo (λi=>by have h1:=m i;have h2:=n i;show -1125899906842624<=a.getD i 0-b.getD i 0/\a.getD i 0-b.getD i 0<=1125899906842624;omega);have u:(bO (iU (· - ·) a b 16)).length=16:=by unfold bO;rw[nw,o]
   generalize iU (· - ·) a b 16=r at c o q h u;rw[<-show R=bO r from h.out]at u;have E:=Qh q;clear q;have z:=c;unfold Blk at z;have G:=Nz o;have p:=Nz u;go_wp2_with (first
    |(go_at_call 143;refine(xS r _ o E.out).mono ?_;rw[<-show R=bO r from h.out];rintro e L ⟨rfl,t⟩;have H:L.heap[w.heap.size+1+1]? =_:=d.keep t)
    |(refine Qp rfl 59 _ rfl w.heap.size rfl 59 _ (0,0) _ z QF rfl ?h1 ?_)
    |(refine Qo rfl 59 _ _ rfl (w.heap.size+1+1) _ rfl rfl 59 _ H ?h2 ?U ?V ?_))
   case h1=>rw[G];exact Tryz.info16
   case h2=>rw[p];exact Tryz.info16
   case U=>rw[p];rfl
   case V=>exact aK _
   have J:=d.keep t;refine Qq (v:=QD (Ns R)) ?_ rfl ⟨rfl,Qt (f.trans (t.mono f.size)) oo _⟩;exact rr t59 rfl rfl (J.row _) p
theorem PC(n:Int):(#[QB Qk n,QB Qk 0,QB Qk 0,QB Qk 0,QB Qk 0,QB Qk 0,QB Qk 0,QB Qk 0,QB Qk 0,QB Qk 0,QB Qk 0,QB Qk 0,QB Qk 0,QB Qk 0,QB Qk 0,QB Qk 0]:Array Qx)=Ns (Fd_none16.set 0 n):=rfl
def am(n:Int):List Int:=Fd_none16.set 0 n
theorem mL(n:Int)(w:Qn):
  Rw 81 #[QB Qk n] w (QD (Ns (am n))):=by
 go_enter Tryz.func81,Tryz.ntmps81;go_wp2;rw[PC];refine Qq (v:=QD (Ns (am n))) ?_ rfl ⟨rfl,bR.alloc nR _⟩;exact results_cell_row rfl _ _ w.heap.size 59 _ (0,0) _ rfl (QI w _ _) QF rfl (by rw[jn];exact Tryz.info16)
def Fd_none31:List Int:=Qa 31 0
def iF(a b t:List Int)(i:Nat):Nat->List Int
 |0=>t
 |k+1=>(iF a b t i k).set (i+k) ((iF a b t i k).getD (i+k) 0+a.getD i 0*b.getD k 0)
def ek(a b:List Int):Nat->List Int
 |0=>Fd_none31
 |i+1=>iF a b (ek a b i) i 16
theorem wi(a b t:List Int)(i k:Nat):(iF a b t i k).length=t.length:=by
 induction k with
 |zero=>rfl
 |succ k c=>rw[iF,Qc,c]
theorem uI(a b:List Int)(i:Nat):(ek a b i).length=31:=by
 induction i with
 |zero=>rfl
 |succ i c=>rw[ek,wi,c]
def dt(t:List Int):Nat->List Int
 |0=>Fd_none16
 |k+1=>(dt t k).set k (if k<15 then t.getD k 0+38*t.getD (k+16) 0 else t.getD k 0)
theorem nB(t:List Int)(k:Nat):(dt t k).length=16:=by
 induction k with
 |zero=>rfl
 |succ k a=>rw[dt,Qc,a]
def af(a b:List Int):List Int:=bO (dt (ek a b 16) 16)
theorem Pc(a b:List Int):(af a b).length=16:=by unfold af bO;rw[nw,nB]
theorem Mn(x y:Int)(d: -131072<=x/\x<=131072)(e: -131072<=y/\y<=131072): -17179869184<=x*y/\x*y<=17179869184:=by
 have a:(131072-x)*(131072-y)>=0:=QP oo oo;have h2:(131072+x)*(131072+y)>=0:=QP oo oo;have b:(131072-x)*(131072+y)>=0:=QP oo oo;have c:(131072+x)*(131072-y)>=0:=QP oo oo;simp only[Int.sub_mul,Int.mul_sub,Int.add_mul,Int.mul_add]at a h2 b c;omega
theorem Gz(a b t:List Int)(i k:Nat)(M:Int)(e:Fd_Bd 131072 a)(f:Fd_Bd 131072 b)(ht:Fd_Bd M t):Fd_Bd (M+17179869184) (iF a b t i k)/\ ∀j,i+k<=j->(iF a b t i k).getD j 0=t.getD j 0:=by
 induction k with
 |zero=>exact⟨ht.mono oo,λj _=>rfl⟩
 |succ k c=>
  have h:=Mn _ _ (e i) (f k);have d:=c.2 (i+k) nR;have h2:=ht (i+k);rw[iF];refine⟨c.1.set _ _ (by rw[d];omega) (by rw[d];omega),λj g=>?_⟩;rw[jg _ _ _ _ oo,c.2 j oo]
theorem pE(n i:Nat):(Qa n (0:Int)).getD i 0=0:=by
 by_cases h:i<n
 .simp[Qd,h]
 .simp[Qd,h]
theorem Km(n:Nat):Fd_Bd 0 (Qa n 0):=λi=>by
 rw[pE];omega
theorem zK(a b:List Int)(i:Nat)(c:Fd_Bd 131072 a)(d:Fd_Bd 131072 b):Fd_Bd ((i:Int)*17179869184) (ek a b i):=by
 induction i with
 |zero=>exact(Km 31).mono oo
 |succ i e=>
  have:=(Gz a b (ek a b i) i 16 _ c d e).1;rw[ek];exact this.mono oo
theorem Fb(t:List Int)(k:Nat)(ht:Fd_Bd 274877906944 t):Fd_Bd 10720238370816 (dt t k)/\ ∀j,k<=j->(dt t k).getD j 0=0:=by
 induction k with
 |zero=>exact⟨(Km 16).mono oo,λj _=>pE 16 j⟩
 |succ k a=>
  have b:=ht k;have h2:=ht (k+16);rw[dt];refine⟨a.1.set _ _ (by split<;>omega) (by split<;>omega),λj c=>?_⟩;rw[jg _ _ _ _ oo,a.2 j oo]
theorem aba(w:Qn):Sem.run QE (zeroValue 149) w=.ok (QD (Ns Fd_none31)) w:=kr
theorem uC{w wr:Qn}{B t i:Nat}{l:List Int}{v:Int}(b:Blk wr B (Ns l) t)(f:w.heap.size<=B)(d:QJ w.heap.size w wr):
  Blk (wr.setCell ⟨B,i,none⟩ (QB Qk v)) B (Ns (l.set i v)) t/\(∀b' a c,b'≠B->Blk wr b' a c->Blk (wr.setCell ⟨B,i,none⟩ (QB Qk v)) b' a c)/\QJ w.heap.size w (wr.setCell ⟨B,i,none⟩ (QB Qk v)):=by
 refine⟨?_,?_,d.setCell f _⟩
 .rw[b.set,BI];exact b.row _
 .intro b' a c g e;rw[b.set];exact e.other g _
theorem Ik(a b:List Int)(w:Qn)(ha:a.length=16)(hb:b.length=16)(T:Fd_Bd 131072 a)(W:Fd_Bd 131072 b):
  Rw 84 #[QD (Ns a),QD (Ns b)] w (QD (Ns (af a b))):=by
 have bi:=Nz ha;have bk:=Nz hb;have hz:=oe;have bs:=aba;have s:=Qh T;have u:=Qh W;clear T W;have m:=QH (QH (QH (QI w (Ns a) 59) (Qj (Ns b) 59)) (Qj (Ns Fd_none16) 59)) (Qj (Ns Fd_none31) 149);have l:=QH (QH (QI (w.alloc (Qj (Ns a) 59)) (Ns b) 59) (Qj (Ns Fd_none16) 59)) (Qj (Ns Fd_none31) 149);have g:=QH (QI ((w.alloc (Qj (Ns a) 59)).alloc (Qj (Ns b) 59)) (Ns Fd_none16) 59) (Qj (Ns Fd_none31) 149);have c:=QI (((w.alloc (Qj (Ns a) 59)).alloc (Qj (Ns b) 59)).alloc (Qj (Ns Fd_none16) 59)) (Ns Fd_none31) 149;have f:QJ w.heap.size w ((((w.alloc (Qj (Ns a) 59)).alloc (Qj (Ns b) 59)).alloc (Qj (Ns Fd_none16) 59)).alloc (Qj (Ns Fd_none31) 149)):=
  (((bR.alloc nR _).alloc ss _).alloc (by simp;omega) _).alloc (by simp;omega) _
 rw[show (w.alloc (Qj (Ns a) 59)).heap.size=w.heap.size+1 by simp]at l;rw[show ((w.alloc (Qj (Ns a) 59)).alloc (Qj (Ns b) 59)).heap.size=w.heap.size+1+1 by simp]at g;rw[show (((w.alloc (Qj (Ns a) 59)).alloc (Qj (Ns b) 59)).alloc (Qj (Ns Fd_none16) 59)).heap.size=w.heap.size+1+1+1 by simp]at c;have o:Hid (af a b=bO (dt (ek a b 16) 16)):=rfl;generalize af a b=R at o|-;go_enter Tryz.func84,Tryz.ntmps84;go_wp2;generalize (((w.alloc (Qj (Ns a) 59)).alloc (Qj (Ns b) 59)).alloc (Qj (Ns Fd_none16) 59)).alloc (Qj (Ns Fd_none31) 149)=w1 at m l g c f|-;go_loopw [6] (λi wr=> ∃k:Nat,k<=16/\i=QB Qk k/\Blk wr (w.heap.size+1+1+1) (Ns (ek a b k)) 149/\Blk wr w.heap.size (Ns a) 59/\Blk wr (w.heap.size+1) (Ns b) 59/\Blk wr (w.heap.size+1+1) (Ns Fd_none16) 59/\QJ w.heap.size w wr) (λi _=>16-(QL i).toNat)
 case atStart=>exact⟨0,oo,rfl,c,m,l,g,f⟩
 case round=>
  clear m l g c f;obtain⟨i,hi,rfl,c,m,l,g,f⟩:=hrel;by_cases bh:i<16
  .have i0:(i:Int)<16:=oo
   go_wp2;go_loopw [7] (λq wr=> ∃k:Nat,k<=16/\q=QB Qk k/\Blk wr (w.heap.size+1+1+1) (Ns (iF a b (ek a b i) i k)) 149/\Blk wr w.heap.size (Ns a) 59/\Blk wr (w.heap.size+1) (Ns b) 59/\Blk wr (w.heap.size+1+1) (Ns Fd_none16) 59/\QJ w.heap.size w wr) (λq _=>16-(QL q).toNat)
   case atStart=>exact⟨0,oo,rfl,c,m,l,g,f⟩
   case round=>
    clear m l g c f;obtain⟨k,hk,rfl,c,m,l,g,f⟩:=hrel;by_cases a3:k<16
    .have k0:(k:Int)<16:=oo
     have n:(iF a b (ek a b i) i k).length=31:=by rw[wi,uI]
     have H:=(Gz a b (ek a b i) i k _ s.out u.out (zK a b i s.out u.out)).1 (i+k);have h:Hid (iF a b (ek a b i) i (k+1)=(iF a b (ek a b i) i k).set (i+k) ((iF a b (ek a b i) i k).getD (i+k) 0+a.getD i 0*b.getD k 0)):=rfl;generalize iF a b (ek a b i) i k=r at c n H h;have ad:=c.cell (i+k);rw[mu _ _ oo]at ad;have hf:=c.frozen (i+k);have Z:=m.cell i;rw[mu _ _ oo]at Z;have ab:=l.cell k;rw[mu _ _ oo]at ab;have M:=Mn _ _ (s.out i) (u.out k);generalize a.getD i 0=x at Z M h;generalize b.getD k 0=y at ab M h;generalize r.getD (i+k) 0=z at ad H h;have d:=uC (w:=w) (i:=i+k) (v:=z+x*y) c oo f;have a5:Qk.wrap (x*y)=x*y:=by rw[Qm];omega
     have a6:Qk.wrap (z+x*y)=z+x*y:=by rw[Qm];omega
     have a7:Qk.wrap ((i:Int)+(k:Int))=(i:Int)+(k:Int):=by rw[Qm];omega
     have a8:((i:Int)+(k:Int)).toNat=i+k:=oo
     have a9:(i:Int)+(k:Int)<31:=oo
     have ba:(0:Int)<=(i:Int)+(k:Int):=oo
     clear H M;go_wp2_with fail;go_region
     all_goals
      go_wp2;go_roundw
      case rel=>
       refine⟨k+1,oo,gn,?_,d.2.1 _ _ _ oo m,d.2.1 _ _ _ oo l,d.2.1 _ _ _ oo g,d.2.2.drew⟩;rw[show iF a b (ek a b i) i (k+1)=_ from h.out];exact d.1
      case measure=>simp[QL];omega
    .have D:k=16:=oo
     subst D;rw[show ((16:Nat):Int)=16 from rfl];go_wp2;go_roundw
     case rel=>exact⟨i+1,oo,gn,c,m,l,g,f⟩
     case measure=>simp[QL];omega
  .have a0:i=16:=oo
   subst a0;rw[show ((16:Nat):Int)=16 from rfl];have I:Fd_Bd 274877906944 (ek a b 16):=(zK a b 16 s.out u.out).mono oo;have a4:=uI a b 16;generalize ek a b 16=t at c I a4 o;have B:=Qh I;clear I;have j:=QI wr (Ns Fd_none16) 59;have K:=g.alloc (Qj (Ns Fd_none16) 59);have L:=c.alloc (Qj (Ns Fd_none16) 59);have C:QJ w.heap.size w (wr.alloc (Qj (Ns Fd_none16) 59)):=f.alloc f.size _;have hC:=c.lt;clear m l g c;go_wp2;generalize wr.alloc (Qj (Ns Fd_none16) 59)=w2 at j K L C|-;generalize wr.heap.size=A at j hC|-;clear f;go_loopw [9] (λq wr=> ∃k:Nat,k<=16/\q=QB Qk k/\Blk wr A (Ns (dt t k)) 59/\Blk wr (w.heap.size+1+1+1) (Ns t) 149/\Blk wr (w.heap.size+1+1) (Ns Fd_none16) 59/\QJ w.heap.size w wr) (λq _=>16-(QL q).toNat)
   case atStart=>exact⟨0,oo,rfl,j,L,K,C⟩
   case round=>
    clear j K L C;obtain⟨k,hk,rfl,j,c,g,f⟩:=hrel;by_cases a3:k<16
    .have k0:(k:Int)<16:=oo
     have ag:=nB t k;have O:=c.cell k;rw[mu _ _ oo]at O;have J:=j.cell k;rw[mu _ _ oo]at J;have hf:=j.frozen k;have Q:=B.out k;by_cases a1:k<15
     .have k1:(k:Int)<15:=oo
      have h:Hid (dt t (k+1)=(dt t k).set k (t.getD k 0+38*t.getD (k+16) 0)):=by show _=_;rw[dt,if_pos a1]
      generalize dt t k=r at j ag J h;have P:=c.cell (k+16);rw[mu _ _ oo]at P;have ah:=B.out (k+16);generalize t.getD k 0=x at O Q h;generalize t.getD (k+16) 0=y at P ah h;have d:=uC (w:=w) (i:=k) (v:=x) j oo f;have p:=uC (w:=w) (i:=k) (v:=x+38*y) d.1 oo d.2.2;rw[List.set_set]at p;have X:=(d.2.1 _ _ _ oo c).cell (k+16);have ay:=d.2.1 _ _ _ oo c;have ax:=d.2.1 _ _ _ oo g;have az:=d.1.cell k;rw[mu _ _ (by rw[Qc];omega),dF _ _ _ oo]at az;have bd:=d.1.frozen k;have bq:(wr.setCell ⟨A,k,none⟩ (QB Qk x)).cell? ⟨w.heap.size+1+1+1,k+16,none⟩=some (QB Qk y):=by rw[X,<-c.cell (k+16)];exact P
      clear X;obtain⟨y1,y2⟩:=Q;obtain⟨z1,z2⟩:=ah;have a5:Qk.wrap (38*y)=38*y:=by rw[Qm];omega
      have a6:Qk.wrap (x+38*y)=x+38*y:=by rw[Qm];omega
      have a7:Qk.wrap ((k:Int)+16)=(k:Int)+16:=by rw[Qm];omega
      have a8:((k:Int)+16).toNat=k+16:=oo
      have a9:(k:Int)+16<31:=oo
      have ba:(0:Int)<=(k:Int)+16:=oo
      have bb:=Qh d;clear d;go_wp2_with fail;go_region
      all_goals
       go_wp2;go_roundw
       case rel=>
        refine⟨k+1,oo,gn,?_,p.2.1 _ _ _ oo ay,p.2.1 _ _ _ oo ax,p.2.2.drew⟩;rw[show dt t (k+1)=_ from h.out];exact p.1
       case measure=>simp[QL];omega
     .have a2:k=15:=oo
      subst a2;rw[show ((15:Nat):Int)=15 from rfl];have h:Hid (dt t 16=(dt t 15).set 15 (t.getD 15 0)):=rfl;generalize dt t 15=r at j ag J h;generalize t.getD 15 0=x at O Q h;have d:=uC (w:=w) (i:=15) (v:=x) j oo f;go_wp2;go_roundw
      case rel=>
       refine⟨16,oo,gn,?_,d.2.1 _ _ _ oo c,d.2.1 _ _ _ oo g,d.2.2⟩;rw[show dt t 16=_ from h.out];exact d.1
      case measure=>simp[QL]
    .have D:k=16:=oo
     subst D;have n:=nB t 16;have F:Fd_Bd 1125899906842624 (dt t 16):=(Fb t 16 B.out).1.mono oo;have N:(bO (dt t 16)).length=16:=by unfold bO;rw[nw,n]
     generalize dt t 16=r at j n F o N;rw[<-show R=bO r from o.out]at N;have an:=Qh F;clear F;have S:=j;unfold Blk at S;have ao:=Nz n;have E:=Nz N;go_wp2_with (first
      |(go_at_call 143;refine(xS r _ n an.out).mono ?_;rw[<-show R=bO r from o.out];rintro e w3 ⟨rfl,G⟩;have g3:w3.heap[w.heap.size+1+1]? =_:=g.keep G)
      |(refine Qp rfl 59 _ rfl A rfl 59 _ (0,0) _ S QF rfl ?V ?_)
      |(refine Qo rfl 59 _ _ rfl (w.heap.size+1+1) _ rfl rfl 59 _ g3 ?h2 ?U ?Y ?_))
     case V=>rw[ao];exact Tryz.info16
     case h2=>rw[E];exact Tryz.info16
     case U=>rw[E];rfl
     case Y=>exact aK _
     have ap:=g.keep G;refine Qq (v:=QD (Ns R)) ?_ rfl ⟨rfl,Qt (f.trans (G.mono f.size)) oo _⟩;exact rr t59 rfl rfl (ap.row _) E
def fj(l:List Int):Nat->Int
 |0=>0
 |i+1=>(l.getD i 0+fj l i)/65536
theorem C4(l:List Int)(h:l.length=16)(i:Nat)(g:i<=15)(j:Nat)(f:j<16):
  (cB l i).getD j 0=if j<i then(l.getD j 0+fj l j)%65536 else if j=i then l.getD j 0+fj l i else l.getD j 0:=by
 induction i generalizing j with
 |zero=>
  rw[cB,if_neg oo];split
  .simp[fj]
  .rfl
 |succ i a=>
  have k:=fg l i;have h0:=a oo i oo;rw[if_neg oo,if_pos rfl]at h0;have d:=a oo (i+1) oo;rw[if_neg oo,if_neg oo]at d;rw[cB,kD,if_pos oo];unfold iT;by_cases b:j=i+1
  .subst b;rw[dF _ _ _ (by rw[Qc];omega),jg _ _ _ _ oo,d,h0,if_neg oo,if_pos rfl,fj]
  .rw[jg _ _ _ _ oo];by_cases e:j=i
   .subst e;rw[dF _ _ _ oo,h0,if_pos oo];omega
   .rw[jg _ _ _ _ oo,a oo j f];by_cases c:j<i
    .rw[if_pos c,if_pos oo]
    .rw[if_neg c,if_neg oo,if_neg oo,if_neg b]
theorem xL(l:List Int)(b:l.length=16)(j:Nat)(f:j<16):
  (cB l 16).getD j 0=if j=0 then l.getD 0 0%65536+38*fj l 16 else(l.getD j 0+fj l j)%65536:=by
 have g:=fg l 15;have h0:=C4 l b 15 oo 0 oo;rw[if_pos oo]at h0;have a:=C4 l b 15 oo 15 oo;rw[if_neg oo,if_pos rfl]at a;rw[cB,kD,if_neg oo];unfold iT;have c:fj l 16=(l.getD 15 0+fj l 15)/65536:=rfl;by_cases e:j=0
 .subst e;rw[dF _ _ _ (by rw[Qc];omega),jg _ _ _ _ oo,h0,a,if_pos rfl,c];simp[fj]
 .rw[jg _ _ _ _ oo,if_neg e];by_cases d:j=15
  .subst d;rw[dF _ _ _ oo,a];omega
  .rw[jg _ _ _ _ oo,C4 l b 15 oo j f,if_pos oo]
theorem YT(l:List Int)(M:Int)(a:131072<=M)(h:Fd_Bd M l)(i:Nat): -(M/32768)<=fj l i/\fj l i<=M/32768:=by
 induction i with
 |zero=>simp only[fj];omega
 |succ i b=>have:=h i;simp only[fj];omega
def Fd_Good(l:List Int):Prop:=l.length=16/\ ∀i, -38<=l.getD i 0/\l.getD i 0<=65573
theorem Fd_Good.bd{l:List Int}(h:Fd_Good l):Fd_Bd 131072 l:=λi=>by have:=h.2 i;omega
theorem Fd_Good.bd'{l:List Int}(h:Fd_Good l):Fd_Bd 562949953421312 l:=λi=>by have:=h.2 i;omega
theorem Fd_Good.bd2{l:List Int}(h:Fd_Good l):Fd_Bd 1125899906842624 l:=λi=>by have:=h.2 i;omega
theorem uu(l:List Int)(g:l.length=16)(h:Fd_Bd 1125899906842624 l):Fd_Good (bO l):=by
 have f:=λj b=>xL l g j b
 have s:=YT l _ oo h 16;have c:(cB l 16).length=16:=by rw[fg,g]
 have o: -1305670057985*1<=(cB l 16).getD 0 0/\(cB l 16).getD 0 0<=1305670123520:=by
  rw[f 0 oo,if_pos rfl];omega
 have a:∀j,1<=j->j<16->0<=(cB l 16).getD j 0/\(cB l 16).getD j 0<=65535:=λj r b=>by
  rw[f j b,if_neg oo];omega
 have e:bO l=cB (cB l 16) 16:=rfl;generalize cB l 16=m at o a c e;have u: -19922945<=fj m 1/\fj m 1<=19922945:=by simp only[fj];omega
 have v: -305<=fj m 2/\fj m 2<=305:=by have:=a 1 oo oo;rw[fj];omega
 have kk:∀d,d<=13-> -1<=fj m (3+d)/\fj m (3+d)<=1:=λd=>by
  induction d with
  |zero=>intro _;have:=a 2 oo oo;show -1<=(m.getD 2 0+fj m 2)/65536/\(m.getD 2 0+fj m 2)/65536<=1;omega
  |succ d q=>
   intro t;have:=a (3+d) oo oo;have:=q oo;show -1<=(m.getD (3+d) 0+fj m (3+d))/65536/\(m.getD (3+d) 0+fj m (3+d))/65536<=1
   omega
 refine⟨by rw[e,fg,c],λi=>?_⟩;rw[e];by_cases p:i<16
 .rw[xL m c i p];have n:=kk 13 oo;split
  .have k:fj m (3+13)=fj m 16:=rfl;rw[k]at n;omega
  .omega
 .rw[yT _ _ (by rw[fg];omega)];omega
theorem cD(a b:List Int)(c:Fd_Good a)(d:Fd_Good b):Fd_Good (aJ a b):=
 uu _ (by unfold B5;rw[jo,c.1]) (C5 _ a b c.1 _ oo (λi=>by have e:=c.2 i;have h2:=d.2 i;show -1125899906842624<=a.getD i 0+b.getD i 0/\a.getD i 0+b.getD i 0<=1125899906842624;omega))
theorem bl(a b:List Int)(c:Fd_Good a)(d:Fd_Good b):Fd_Good (au a b):=
 uu _ (by unfold BX;rw[jo,c.1]) (C5 _ a b c.1 _ oo (λi=>by have e:=c.2 i;have h2:=d.2 i;show -1125899906842624<=a.getD i 0-b.getD i 0/\a.getD i 0-b.getD i 0<=1125899906842624;omega))
theorem aA(a b:List Int)(c:Fd_Good a)(d:Fd_Good b):Fd_Good (af a b):=
 uu _ (nB _ _) ((Fb _ 16 ((zK a b 16 c.bd d.bd).mono oo)).1.mono oo)
theorem oa(n:Int)(h0: -38<=n)(a:n<=65573):Fd_Good (am n):=⟨rfl,λi=>by
 unfold am;by_cases e:0=i
 .subst e;rw[dF _ _ _ dd];omega
 .rw[jg _ _ _ _ e];show -38<=(Qa 16 (0:Int)).getD i 0/\(Qa 16 (0:Int)).getD i 0<=65573
  rw[pE];omega⟩
def OwnI(w:Qn)(base:Nat)(v:Qx)(l:List Int):Prop:=
 (v=QC none 0 0/\l=[])\/
 ∃(g cap:Nat) (cur:Array Qx),v=QC (some ⟨g,0,none⟩) l.length cap/\base<=g/\w.heap[g]? =some (Qj cur 3 (0,0))/\cur.size=cap/\l.length<=cap/\cur.toList.take l.length=(Ns l).toList
theorem OwnI.below{w w':Qn}{a B:Nat}{v:Qx}{l:List Int}(h:OwnI w a v l)(d:QJ B w w')(i:w.heap.size<=B):OwnI w' a v l:=by
 rcases h with h|⟨g,cap,c,f,e,b,r⟩
 .exact .inl h
 .refine .inr ⟨g,cap,c,f,e,?_,r⟩;have:=(Array.getElem?_eq_some_iff.1 b).1;rw[d.block g oo];exact b
theorem OwnI.keep{w w':Qn}{a:Nat}{v:Qx}{l:List Int}(h:OwnI w a v l)(b:QJ w.heap.size w w'):OwnI w' a v l:=h.below b nR
theorem Tryz.infoInt:(QE.info? 3).map (λi=>(i.zero,i.size,i.bytes))=some (some (QB Qk 0),1,8):=kr
theorem SK{w:Qn}{k:Nat}{v:Qx}{l:List Int}(h:OwnI w k v l)(b:List Int)(m p:Nat)(O:∀i,i<b.length->w.cell? ⟨m,i,none⟩=some (QB Qk (b.getD i 0)))(X:0<b.length)(C:k<=w.heap.size)(T:l.length+b.length<1000000):
  ∃v' w',(Builtin.append_ #[150,150] 150 #[v,QC (some ⟨m,0,none⟩) b.length p]).run QE w=.ok v' w'/\OwnI w' k v' (l++b)/\QJ k w w':=by
 obtain⟨i,F,z⟩:=Option.map_eq_some_iff.1 Tryz.infoInt;simp only[Prod.mk.injEq]at z;obtain⟨Q,r,I⟩:=z;have s:∀u∈(Ns b).toList,u.oneCell'=true:=λu f=>(QQ.1 (aK b)) u (by simpa using f)
 have y:(Ns b).toList.length=b.length:=by simp[Ns]
 have A:Src QE i.size 150 (QC (some ⟨m,0,none⟩) b.length p) b.length (Ns b).toList w:=by
  rw[r];refine Src.ofSlice w QG _ b.length p _ (by rw[y,QO]) ?_ s;intro j u f;have d:j<b.length:=by have:=(Qf.1 f).1;omega
  have t:(⟨m,0,none⟩:Addr).add j=⟨m,j,none⟩:=by unfold Addr.add;split<;>simp_all
  rw[t,O j d,<-f];have:=mu b j d;rw[<-this];simp
 have B:∀(a:Option Addr) (n cap:Nat),n=l.length->(Builtin.firstCells i.size n (QC a n cap)).run QE w.drew=.ok (Ns l).toList.toArray w.drew-> ¬n+b.length<=cap->
   ∃v' w',(Builtin.append_ #[150,150] 150 #[QC a n cap,QC (some ⟨m,0,none⟩) b.length p]).run QE w=.ok v' w'/\OwnI w' k v' (l++b)/\QJ k w w':=by
  intro a n cap K L q;subst K;have M:=run_append_grow_src (P:=QE) w 150 150 150 3 i _ QG F Q a l.length cap (Ns l).toList L _ b.length _ A oo oo
   (by rw[I];exact growslice_fits oo oo)
  refine⟨_,_,M,.inr ?_,bR.drew.alloc C _⟩;have J:=grownCap_ge w (l.length+b.length) cap 3;refine⟨w.heap.size,grownCap w (l.length+b.length) cap 3,_,ss,C,heap_alloc_new w.drew _,?_,by simpa using J,?_⟩
  .simp[Ns,Builtin.zeroCells,Value.cells];omega
  .have x:(l++b).length=l.length+b.length:=ss
   have o:((Ns l).toList++(Ns b).toList).length=l.length+b.length:=by simp[Ns]
   rw[x,Array.toList_append,Qe (QM o.symm),Qi (QM o)];simp[Ns]
 rcases h with ⟨rfl,rfl⟩|⟨g,cap,c,rfl,E,e,S,W,ht⟩
 .refine B none 0 0 rfl ?_ oo;rw[run_firstCells_none];rfl
 .by_cases q:l.length+b.length<=cap
  .have N:=run_append_room_src (P:=QE) w 150 150 150 3 i QG F g 0 l.length cap _ b.length _ A q
    (by intro j d;rw[r,Qy w g _ c _ (0,0) e];simp;omega)
    (by intro j d;exact QA w g _ c _ e)
   have D:w.setCells g (0+l.length*i.size) (Ns b).toList=w.setRow g (c.toList.take l.length++(Ns b).toList++c.toList.drop (l.length+b.length)).toArray:=by
    have G:=run_storeCells_at QE g l.length 3 (Ns b).toList 0 c w e (by rw[y];omega) s;have R:=run_storeCells_cells (P:=QE) g l.length (Ns b).toList 0 w (λj d=>by simp only[QN];rw[Qy w g _ c _ (0,0) e];simp;omega) (λj d=>QA w g _ c _ e) s;rw[R]at G;have H:=(Result.ok.inj G).2;rw[r,QO,Nat.zero_add];simp only[QN,y]at H;exact H
   refine⟨_,_,N,.inr ?_,?_⟩
   .rw[D];refine⟨g,cap,_,ss,E,setRow_heap w g c _ _ (0,0) e,?_,by simpa using q,?_⟩
    .simp[Ns];omega
    .have o:(c.toList.take l.length++(Ns b).toList).length=l.length+b.length:=by simp[Ns];omega
     have x:(l++b).length=l.length+b.length:=ss
     rw[x];show((c.toList.take l.length++(Ns b).toList)++c.toList.drop (l.length+b.length)).take (l.length+b.length)=_
     rw[Qe (QM o.symm),Qi (QM o),ht];simp[Ns]
   .rw[D];exact Qt bR E _
  .refine B _ _ _ rfl ?_ q;rw[r];refine run_firstCells_some w.drew 1 l.length _ l.length cap _ (by simp[Ns]) ?_;intro j u f;have d:j<l.length:=by
    have:=(Qf.1 f).1;simpa [Ns]using this
   have t:(⟨g,0,none⟩:Addr).add j=⟨g,j,none⟩:=by unfold Addr.add;split<;>simp_all
   rw[t];have h2:(c.toList.take l.length)[j]? =(Ns l).toList[j]? :=by rw[ht]
   rw[Qg d,f]at h2;show w.cell? _=_
   rw[Qy w g j c _ (0,0) e];simpa using h2
theorem OwnI.cell{w:Qn}{e g n cap:Nat}{l:List Int}(h:OwnI w e (QC (some ⟨g,0,none⟩) n cap) l)(i:Nat)(d:i<l.length):w.cell? ⟨g,i,none⟩=some (QB Qk (l.getD i 0)):=by
 rcases h with ⟨b,_⟩|⟨k,j,c,b,o,f,m,p,ht⟩
 .cases b
 .injection b with a _ _
  injection a with a
  injection a with a _ _
  subst a;rw[Qy w g i c _ (0,0) f];have h2:(c.toList.take l.length)[i]? =(Ns l)[i]? :=by rw[ht];simp
  rw[Qg d,mu l i d]at h2;simpa using h2
def gr(last:List Int)(many:Nat):List Int:=Qa (many-last.length) 1++last
theorem Nu(c:List Int)(m:Int)(b q A:Nat)(w:Qn)(K:m=(b:Int))(W:b<=1000)(J:c.length<b)(D:0<c.length)(u:∀i,i<c.length->w.cell? ⟨q,i,none⟩=some (QB Qk (c.getD i 0))):
  Calls QE 144 #[QC (some ⟨q,0,none⟩) c.length A,QB Qk m] w λe w'=> ∃g cap,e=.returned (QC (some ⟨g,0,none⟩) b cap)/\OwnI w' w.heap.size (QC (some ⟨g,0,none⟩) b cap) (gr c b)/\QJ w.heap.size w w':=by
 subst K;have G:=block_lt_of_cell (u 0 D);have z:=Qh u;clear u;have o:Hid (gr c b=Qa (b-c.length) 1++c):=rfl;generalize gr c b=O at o|-;generalize B:c.length=f at J D z o|-;have n:=Qh B;clear B;go_enter Tryz.func144,Tryz.ntmps144;go_wp2;go_loopw [5] (λv wr=> ∃k:Nat,k<=b-f/\OwnI wr w.heap.size v (Qa k 1)/\QJ w.heap.size w wr) (λv _=>b-f-pM v)
 case atStart=>exact⟨0,oo,.inl ⟨rfl,rfl⟩,Below.refl _ _⟩
 case round=>
  obtain⟨k,S,s,j⟩:=hrel;obtain⟨a,cap,L⟩:∃a cap,u5=QC a k cap:=by
   rcases s with ⟨rfl,h⟩|⟨g,cap,R,rfl,_⟩
   .have:k=0:=by have:=congrArg List.length h;simpa using this
    subst this;exact⟨_,_,rfl⟩
   .exact⟨some ⟨g,0,none⟩,cap,ss⟩
  subst L;by_cases T:k<b-f
  .have N:(wr.alloc (Qj #[QB Qk 1] 3)).cell? ⟨wr.heap.size,0,none⟩=some (QB Qk 1):=by
    rw[(QI wr #[QB Qk 1] 3).cell 0];rfl
   obtain⟨y,Q,l,d,x⟩:=SK (s.keep ((Below.refl wr.heap.size wr).alloc nR (Qj #[QB Qk 1] 3))) [1] wr.heap.size 1 (by intro i C;match i,C with|0,_=>exact N) ss (by simp;have:=j.size;omega) (by simp;omega);rw[show Qa k (1:Int)++ [1]=Qa (k+1) 1 by rw[List.replicate_succ']]at d;have r:=Qh l;clear l;have E:=(j.alloc j.size _).trans x;have I:pM y=k+1:=by
    rcases d with ⟨_,h⟩|⟨_,_,_,rfl,_⟩
    .simp at h
    .simp[pM]
   have P:(k:Int)<(b:Int)-(f:Int):=oo
   go_wp2_with (at_builtin;refine Lib.wpList_append_run _ rfl _ _ _ _ rfl _ _ rfl rfl _ _ r.out ?_);go_roundw
   case rel=>exact⟨k+1,oo,d,E⟩
   case measure=>rw[I];simp only[pM];omega
  .have H:k=b-f:=oo
   have P:¬(k:Int)<(b:Int)-(f:Int):=oo
   obtain⟨y,Q,l,d,x⟩:=SK s c q A (by intro i C;rw[j.cell (p:=⟨q,i,none⟩) G];exact z.out i (by have:=n.out;omega)) (by have:=n.out;omega) j.size (by simp;have:=n.out;omega);rw[show c.length=f from n.out]at l;rw[H,<-show O=_ from o.out]at d;have t:O.length=b:=by rw[show O=_ from o.out];simp;have:=n.out;omega
   obtain⟨g,F,M⟩:∃g cap,y=QC (some ⟨g,0,none⟩) b cap:=by
    rcases d with ⟨_,h⟩|⟨g,cap,_,rfl,_⟩
    .rw[h]at t;simp at t;omega
    .exact⟨g,cap,by rw[t]⟩
   subst M;have r:=Qh l;clear l;go_wp2_with (at_builtin;refine Lib.wpList_append_run _ rfl _ _ _ _ rfl _ _ rfl rfl _ _ r.out ?_);go_ret;exact⟨g,F,rfl,d,j.trans x⟩
end Go.Proofs.YtclpbaokadfhhaaGreatDoor
