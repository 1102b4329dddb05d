import Derived.Test.YtclpbaokadfhhaaGreatDoorUg
set_option maxRecDepth 100000
set_option maxHeartbeats 4000000
open Go.Value renaming string->Qa,slice->Qc,pointer->Qd,int->Qe,bool->Qf
open Go.Proofs.Tryz renaming prog->Qg,ntmps130->Qi,func130->Qj,ntmps131->Qk,ntmps64->Qm,func131->Qn,func64->Qo
open Go.IntKind renaming i64->Qp,wrap_i64->Qq
open Go renaming Calls->Qt,World->Qx
open UInt8 renaming ofNat->Qy
open Go.Obj renaming cells->Qz
open Or renaming inr->QA
open Go.ByteArray renaming toList_eq->QB
open ByteArray renaming size_extract->QC
open Go.Ending renaming returned->QG
open Go.RowKit renaming Below->QH,intOf->QI
namespace Go.Proofs.YtclpbaokadfhhaaGreatDoor
open Go.RowKit
open Blk renaming lt->QD,new->QE,alloc->QF
def pnc(x:Int):List PanicEntry:=[{v:=.iface 133 (.agg #[Qe Qp x]),recovered:=false}]
theorem Yd(x:Int)(w:Qx):
  Qt Qg 128 #[Qf false,Qe Qp x] w λe w'=>e=.panicked (pnc x)/\w'=w:=by
 go_enter Tryz.func128,Tryz.ntmps128;go_wp2;exact⟨rfl,rfl,rfl⟩
theorem sk(x:Int):Hid (∀a:Qx,Qt Qg 128 #[Qf false,Qe Qp x] a λe w'=>e=.panicked (pnc x)/\w'=a):=λa=>Yd x a
theorem uQ(q k n:Nat)(L:Qb)(w:Qx)(h:Rd w q L k)(s:L.size<k+n)(r:k<=L.size)(p:L.size<=1000000):
  Qt Qg 129 #[Qd (some ⟨q,0,none⟩),Qe Qp (n:Int)] w λe w'=>e=.panicked (pnc 5)/\QH w.heap.size w w':=by
 obtain⟨c,d⟩:=h.at;have f:=sk 5;have m:decide ((n:Int)<=(L.size:Int)-(k:Int))=false:=decide_eq_false oo;have t:Qp.wrap ((L.size:Int)-(k:Int))=(L.size:Int)-(k:Int):=by rw[Qq];omega
 go_enter Tryz.func129,Tryz.ntmps129;go_wp2_with fail;refine bu (S:=(λy:Qx=>y.cell? ⟨q,0,none⟩=some (Qa L)/\y.cell? ⟨q,1,none⟩=some (Qe Qp (k:Int))/\QH w.heap.size w y)) (ls:=[]) kr ?_;have a:(λy:Qx=>y.cell? ⟨q,0,none⟩=some (Qa L)/\y.cell? ⟨q,1,none⟩=some (Qe Qp (k:Int))/\QH w.heap.size w y) w.drew:=⟨c,d,bR.drew⟩;clear c d h;generalize w.drew=x at a|-;refine ae 0 6 a ?_;refine ae 1 7 a ?_;refine ae 2 8 a ?_;simp only[qQ];refine ae 3 9 a ?_;refine ac 4 10 (v:=Qa L) a ?_ ?_
 ·(intro j b;have g:=b.1;clear b;go_simp)
 refine ae 5 11 a ?_;simp only[qQ];refine ae 6 12 a ?_;refine ae 7 13 a ?_;refine ae 8 14 a ?_;simp only[qQ];refine ac 9 15 (v:=Qe Qp (k:Int)) a ?_ ?_
 ·(intro j b;have g:=b.2.1;clear b;go_simp)
 refine ae 10 16 (v:=Qe Qp ((L.size:Int)-(k:Int))) a ?_;refine ae 11 17 (v:=Qf false) a ?_;simp only[qQ];try simp only[qQ]
 refine ip (i:=12) kr rfl (λl o=>?_);go_simp;go_wp2_with (go_at_call 128;refine(f.out _).mono ?_;rintro e u ⟨rfl,rfl⟩);exact⟨rfl,rfl,a.2.2⟩
theorem Ye(q k:Nat)(L:Qb)(w:Qx)(h:Rd w q L k)(a:L.size<k+4)(f:k<=L.size)(c:L.size<=1000000):
  Qt Qg 131 #[Qd (some ⟨q,0,none⟩)] w λe w'=>e=.panicked (pnc 5)/\QH w.heap.size w w':=by
 have b:Hid (Qt Qg 129 #[Qd (some ⟨q,0,none⟩),Qe Qp 4] w λe w'=>e=.panicked (pnc 5)/\QH w.heap.size w w'):=uQ q k 4 L w h a f c;clear a;go_enter Qn,Qk;go_wp2_with fail;refine b.out.mono ?_;rintro e g ⟨rfl,d⟩;go_wp2;exact⟨rfl,rfl,d⟩
theorem Yf(q k:Nat)(L:Qb)(f:Nat->UInt8)(w:Qx)(h:Rd w q L k)(l:k+4<=L.size)(s:L.size<=1000000)
  (d:∀i,i<4->(L.extract k (k+4)).data.toList.getD i 0=f i) (c:10000<V (iu f 4)):
  Qt Qg 131 #[Qd (some ⟨q,0,none⟩)] w λe w'=>e=.panicked (pnc 5)/\But q w w':=by
 have a:=rA q k 4 L w h l s;have b:(L.extract k (k+4)).size=4:=by rw[QC];omega
 replace c:=Qh c;generalize L.extract k (k+4)=B at a d b;replace a:Hid (Qt Qg 129 #[Qd (some ⟨q,0,none⟩),Qe Qp 4] w λe w'=>e=QG (Qa B)/\Rd w' q L (k+4)/\But q w w'):=a;have n:=sk 5;clear l;replace b:=Qh b;go_enter Qn,Qk;go_wp2_with fail;refine a.out.mono ?_;rintro e m ⟨rfl,r,t⟩;obtain⟨cap,E,y,g,p⟩:=bytesOf B m.heap.size m nR;replace g:=g.at;rw[b.out]at y;have D:B.data.toList.length=4:=by rw[<-b.out];simp
 have u:=t.keep p (Nat.le_of_lt (QD r));clear a h;go_wp2_with fail;go_loop [3,10] (λx i=> ∃j:Nat,j<=4/\i=Qe Qp j/\x=Qe .u32 (V (iu f j))) (λ_ i=>4-(QI i).toNat)
 case atStart=>exact⟨0,Nat.zero_le _,rfl,rfl⟩
 case round=>
  obtain⟨j,C,rfl,rfl⟩:=hrel;by_cases z:j<4
  .have v:=g.cell j oo;rw[d j z]at v;clear d;have o:=Qh (wG (iu f j) (f j) j);go_wp2_with fail;go_round
   case rel=>exact⟨j+1,oo,gn,cH o.out⟩
   case measure=>simp[QI];omega
  .have:j=4:=oo
   subst this;have A:¬V (iu f 4)<=10000:=by have:=c.out;omega
   go_wp2_with fail;refine(n.out _).mono ?_;rintro e w' ⟨rfl,rfl⟩;go_wp2;exact⟨rfl,rfl,u⟩
theorem VZ(q k:Nat)(L:Qb)(w:Qx)(h:Rd w q L k)(a:L.size<k+1)(f:k<=L.size)(c:L.size<=1000000):
  Qt Qg 130 #[Qd (some ⟨q,0,none⟩)] w λe w'=>e=.panicked (pnc 5)/\QH w.heap.size w w':=by
 have b:Hid (Qt Qg 129 #[Qd (some ⟨q,0,none⟩),Qe Qp 1] w λe w'=>e=.panicked (pnc 5)/\QH w.heap.size w w'):=uQ q k 1 L w h a f c;clear a;go_enter Qj,Qi;go_wp2_with fail;refine b.out.mono ?_;rintro e g ⟨rfl,d⟩;go_wp2;exact⟨rfl,rfl,d⟩
theorem VY(q k n:Nat)(L:Qb)(w:Qx)(h:Rd w q L k)(m:n=0\/8<n)(v:n<256)(l:L.size<=1000000)(u:k+1<=L.size)(b:(L.extract k (k+1)).data.toList.getD 0 0=Qy n):
  Qt Qg 130 #[Qd (some ⟨q,0,none⟩)] w λe w'=>e=.panicked (pnc 5)/\But q w w':=by
 have a:Hid (Qt Qg 129 #[Qd (some ⟨q,0,none⟩),Qe Qp 1] w λe w'=>e=QG (Qa (L.extract k (k+1)))/\Rd w' q L (k+1)/\But q w w'):=rA q k 1 L w h oo l;have o:(L.extract k (k+1)).size=1:=by rw[QC];omega
 generalize L.extract k (k+1)=B at a o b;have f:=gh B 0 oo;rw[b]at f;clear b;have d:=sk 5;have p:((Qy n).toNat:Int)=(n:Int):=by rw[show (Qy n).toNat=n by simp;omega]
 generalize Qy n=x at f p;have y:Qp.wrap (n:Int)=(n:Int):=by rw[Qq];omega
 rcases m with h0|t
 .have g:¬(n:Int)>=1:=oo
  go_enter Qj,Qi;go_wp2_with fail;refine a.out.mono ?_;rintro e r ⟨rfl,j,c⟩;clear a;go_wp2_with fail;refine(d.out _).mono ?_;rintro e s ⟨rfl,rfl⟩;go_wp2;exact⟨rfl,rfl,c⟩
 .have g:(n:Int)>=1:=oo
  have i:¬(n:Int)<=8:=oo
  go_enter Qj,Qi;go_wp2_with fail;refine a.out.mono ?_;rintro e r ⟨rfl,j,c⟩;clear a;go_wp2_with fail;rw[decide_eq_false (Int.not_le.2 i)];refine(d.out _).mono ?_;rintro e s ⟨rfl,rfl⟩;go_wp2;exact⟨rfl,rfl,c⟩
theorem VX(q k n:Nat)(L:Qb)(w:Qx)(h:Rd w q L k)(N:1<=n)(O:n<=8)(u:L.size<=1000000)(hk:k+1<=L.size)(hn:L.size<k+1+48*n)(v:(L.extract k (k+1)).data.toList.getD 0 0=Qy n):
  Qt Qg 130 #[Qd (some ⟨q,0,none⟩)] w λe w'=>e=.panicked (pnc 5)/\But q w w':=by
 have t:Hid (Qt Qg 129 #[Qd (some ⟨q,0,none⟩),Qe Qp 1] w λe w'=>e=QG (Qa (L.extract k (k+1)))/\Rd w' q L (k+1)/\But q w w'):=rA q k 1 L w h oo u;have H:(L.extract k (k+1)).size=1:=by rw[QC];omega
 generalize L.extract k (k+1)=B at t H v;have y:=gh B 0 oo;rw[v]at y;clear v;have A:=Qh λX=>wP 5 X
 have I:((Qy n).toNat:Int)=(n:Int):=by rw[show (Qy n).toNat=n by simp;omega]
 generalize Qy n=x at y I;have Z:(n:Int)>=1:=oo
 have d2:(n:Int)<=8:=oo
 have wn:Qp.wrap (n:Int)=(n:Int):=by rw[Qq];omega
 have W:=QD h;go_enter Qj,Qi;go_wp2_with fail;refine t.out.mono ?_;rintro e w1 ⟨rfl,c,d⟩;have F:=d;clear t;go_wp2_with fail;try rw[I]
 refine(A.out _).mono ?_;rintro e o ⟨rfl,rfl⟩;have S:=mkS n N O o;clear A y H;go_wp2_with fail;clear S;have l:=QE o (Ss (List.replicate n ⟨#[]⟩)) 9;rw[<-Gp L (k+1) n]at l|-;replace d:=d.alloc (Nat.le_of_lt (QD c)) (Qz (Ss (ij L (k+1) n 0)) 9);replace c:Rd (o.alloc (Qz (Ss (ij L (k+1) n 0)) 9)) q L (k+1):=QF c _;have D:=F.below.size;generalize o.alloc (Qz (Ss (ij L (k+1) n 0)) 9)=z at l d c|-;generalize o.heap.size=b at l D|-;have E:Hid (Blk z b (Ss (ij L (k+1) n 0)) 9/\Rd z q L (k+1+48*0)/\But q w z):=⟨l,c,d⟩;clear l c d h F;have f:q<w.heap.size/\w.heap.size<=b:=⟨W,D⟩;replace f:=Qh f;go_loopw [21] (λi wr=> ∃j:Nat,i=Qe Qp j/\j<=n/\k+1+48*j<=L.size/\Hid (Blk wr b (Ss (ij L (k+1) n j)) 9/\Rd wr q L (k+1+48*j)/\But q w wr)) (λi _=>n-(QI i).toNat)
 case atStart=>exact⟨0,rfl,oo,oo,E⟩
 case round=>
  clear E;obtain⟨j,rfl,hj,ab,a⟩:=hrel;have G:j<n:=oo
  have d3:(j:Int)<(n:Int):=oo
  by_cases R:L.size<k+1+48*j+48
  .have r:Hid (Qt Qg 129 #[Qd (some ⟨q,0,none⟩),Qe Qp 48] wr λe w'=>e=.panicked (pnc 5)/\QH wr.heap.size wr w'):=uQ q (k+1+48*j) 48 L wr a.out.2.1 R oo u;go_wp2_with fail;refine r.out.mono ?_;rintro e g ⟨rfl,m⟩;go_wp2;exact⟨rfl,rfl,a.out.2.2.keep m (Nat.le_of_lt (QD a.out.2.1))⟩
  .skip;have r:Hid (Qt Qg 129 #[Qd (some ⟨q,0,none⟩),Qe Qp 48] wr λe w'=>e=QG (Qa (jR L (k+1) j))/\Rd w' q L (k+1+48*(j+1))/\But q wr w'):=rA q (k+1+48*j) 48 L wr a.out.2.1 oo u;go_wp2_with fail;refine r.out.mono ?_;rintro e g ⟨rfl,C,m⟩;have T:b≠q:=by have:=f.out;omega
   have s:=m.blk a.out.1 T;have Q:=s.cell j;rw[xw _ _ (by rw[kM];exact G)]at Q;have hf:=s.frozen j;have J:=s.setAt j _ (by rw[Oh,Kc _ _ _ _ G]);have K:Rd (g.setCell ⟨b,j,none⟩ (Qa (jR L (k+1) j))) q L (k+1+48*(j+1)):=Blk.below C ((Below.refl b g).setCell (p:=⟨b,j,none⟩) nR _) (by have:=f.out;omega);have M:=(a.out.2.2.trans m).setNew f.out.1 f.out.2 j (Qa (jR L (k+1) j));have P:Hid (Blk (g.setCell ⟨b,j,none⟩ (Qa (jR L (k+1) j))) b (Ss (ij L (k+1) n (j+1))) 9/\Rd (g.setCell ⟨b,j,none⟩ (Qa (jR L (k+1) j))) q L (k+1+48*(j+1))/\But q w (g.setCell ⟨b,j,none⟩ (Qa (jR L (k+1) j)))):=⟨J,K,M⟩;clear a r C m s J K M;go_wp2_with fail;go_roundw
   case rel=>exact⟨j+1,gn,oo,oo,P⟩
   case measure=>simp[QI];omega
theorem Ht{a b:Qb}(h:¬a=b):(a.toList==b.toList)=false:=by
 rw[beq_eq_false_iff_ne];intro e;apply h
 rw[QB,QB]at e;cases a;cases b
 simp only[ByteArray.mk.injEq];exact Array.toList_inj.1 e
def bA(L:ByteArray):Nat:=((L.extract 35 36).data.toList.getD 0 0).toNat
def yP(L:ByteArray)(i:Nat):UInt8:=(L.extract (68+48*bA L) (68+48*bA L+4)).data.toList.getD i 0
def iq(L:ByteArray):Nat:=(V (iu (yP L) 4)).toNat
abbrev mI(L:ByteArray):Prop:=L.size<=12000/\L.extract 0 3=Le_mark/\1<=bA L/\bA L<=8/\72+48*bA L<=L.size/\iq L<=10000/\L.size=152+48*bA L+iq L
theorem YH(L:Qb):V (iu (yP L) 4)=(iq L:Int):=by
 unfold iq;rw[Int.toNat_of_nonneg];exact Int.natCast_nonneg _
def Xo(L:ByteArray)(b:Nat):Array Value:=prt (L.extract 3 35) (Qc (some ⟨b,0,none⟩) (bA L) (bA L)) (L.extract (36+48*bA L) (36+48*bA L+32)) (L.extract 0 (72+48*bA L)) (L.extract (72+48*bA L) (72+48*bA L+(iq L+16))) (L.extract 0 (88+48*bA L+iq L)) (L.extract (88+48*bA L+iq L) (88+48*bA L+iq L+64))
theorem Ya(L:Qb)(w:Qx):
  Qt Qg 64 #[Qa L] w λe w'=>((mI L/\ ∃b:Nat,e=QG (.agg (Xo L b))/\Blk w' b (Ss (ij L 36 (bA L) (bA L))) 9)\/(¬mI L/\e=.panicked (pnc 5)))/\QH w.heap.size w w':=by
 have hz:=UW;have R:=Qh λwx=>wP 5 wx
 have Q:=sk 5;generalize ap:Ny=Z at hz;have sZ:Z.size=7:=by rw[<-ap];rfl
 have b0:=QE w Z 84;have T:QH w.heap.size w (w.alloc (Qz Z 84)):=bR.alloc nR _;have s:Hid (mI L->L.size<=12000/\L.extract 0 3=Le_mark/\1<=bA L/\bA L<=8/\72+48*bA L<=L.size/\iq L<=10000/\L.size=152+48*bA L+iq L):=λh=>h
 have I:Hid (L.size<=12000->L.extract 0 3=Le_mark->1<=bA L->bA L<=8->72+48*bA L<=L.size->iq L<=10000->L.size=152+48*bA L+iq L->mI L):=λa b c d e f g=>⟨a,b,c,d,e,f,g⟩
 have J:Hid (∀i,i<4->(L.extract (68+48*bA L) (68+48*bA L+4)).data.toList.getD i 0=yP L i):=λi _=>rfl
 have K:=Qh (YH L);have M:Hid ((L.extract 35 (35+1)).data.toList.getD 0 0=Qy (bA L)):=by show _=_;unfold bA;simp
 have ao:bA L<256:=UInt8.toNat_lt _;have v:Hid (∀b,prt (L.extract 3 35) (Qc (some ⟨b,0,none⟩) (bA L) (bA L)) (L.extract (36+48*bA L) (36+48*bA L+32)) (L.extract 0 (72+48*bA L)) (L.extract (72+48*bA L) (72+48*bA L+(iq L+16))) (L.extract 0 (88+48*bA L+iq L)) (L.extract (88+48*bA L+iq L) (88+48*bA L+iq L+64))=Xo L b):=λb=>rfl
 generalize Xo L=PL at v|-;generalize mI L=FO at s I|-;generalize yP L=an at J K;generalize iq L=m at K s I v;generalize bA L=n at J M s I ao v|-;by_cases s0:L.size<=12000
 .have d1:(L.size:Int)<=12000:=oo
  go_enter Qo,Qm;go_wp2_with fail;refine(R.out _).mono ?_;rintro e bi ⟨rfl,rfl⟩;have N:Rd ((w.alloc (Qz Z 84)).alloc (Qz #[Qa L,Qe Qp 0] 138)) (w.heap.size+1) L 0:=by
   have:=QE (w.alloc (Qz Z 84)) #[Qa L,Qe Qp 0] 138;rw[show (w.alloc (Qz Z 84)).heap.size=w.heap.size+1 by simp]at this;exact this
  have W:=b0.alloc (Qz #[Qa L,Qe Qp 0] 138);have D:QH w.heap.size w ((w.alloc (Qz Z 84)).alloc (Qz #[Qa L,Qe Qp 0] 138)):=T.alloc ss _;clear b0 T;go_wp2_with fail;generalize (w.alloc (Qz Z 84)).alloc (Qz #[Qa L,Qe Qp 0] 138)=w1 at N W D|-;by_cases s1:3<=L.size
  .refine(rA (w.heap.size+1) 0 3 L w1 N oo oo).mono ?_;rintro e w2 ⟨rfl,O,ab⟩;have b2:=ab.blk W oo;have F:=D.trans (ab.below.mono (Nat.le_succ _));clear N W D ab;rw[show 0+3=3 from rfl]at O|-;by_cases P:L.extract 0 3=Le_mark
   .rw[P];go_wp2_with fail;rw[show (Le_mark.toList== [77,86,49])=true by rw[QB];rfl];refine(R.out _).mono ?_;rintro e E ⟨rfl,rfl⟩;have ax:=QD O;have j:PI w (w.heap.size+1) E.heap.size L 3 Z [(w.heap.size,Z,84)] (E.alloc (Qz Z 84)):=
     ⟨QF O _,QE _ _ _,(λx hx=>by
      rcases List.mem_cons.1 hx with rfl|hx
      .exact⟨b2.alloc _,(by show w.heap.size≠_;omega),(by show w.heap.size≠_;omega)⟩
      .cases hx),F.alloc F.size _,oo,oo,oo⟩
    clear O b2 F;go_wp2_with fail;generalize E.alloc (Qz Z 84)=w3 at j|-;generalize E.heap.size=o at j ax|-;generalize ag:w.heap.size+1=q at j ax|-;replace ag:=Qh ag;have ah:Hid (w.heap.size<=q):=by have:=ag.out;show w.heap.size<=q;omega
    replace j:PI w q o L 3 (prt ⟨#[]⟩ (Qc none 0 0) ⟨#[]⟩ ⟨#[]⟩ ⟨#[]⟩ ⟨#[]⟩ ⟨#[]⟩) [(w.heap.size,Z,84)] w3:=j.cast (by rw[<-ap];rfl);by_cases s3:35<=L.size
    .refine(rA q (3) (32) L _ j.1 oo oo).mono ?_;rintro e w4 ⟨rfl,rr,k⟩;rw[show 3+(32)=35 by omega]at rr;replace j:=j.next rr k;clear rr k;rw[show 3+(32)=35 by omega];generalize L.extract 3 35=r at v|-;have p:=j.2.1.cell 0;rw[show (prt ⟨#[]⟩ (Qc none 0 0) ⟨#[]⟩ ⟨#[]⟩ ⟨#[]⟩ ⟨#[]⟩ ⟨#[]⟩)[0]? =some (Qa ⟨#[]⟩)from rfl]at p;have t:=j.2.1.frozen 0;replace j:PI w q o L (35) (prt r (Qc none 0 0) ⟨#[]⟩ ⟨#[]⟩ ⟨#[]⟩ ⟨#[]⟩ ⟨#[]⟩) [(w.heap.size,Z,84)] (w4.setCell ⟨o,0,none⟩ (Qa r)):=j.set 0 _ rfl;go_wp2_with fail;clear p t;generalize w4.setCell ⟨o,0,none⟩ (Qa r)=w5 at j|-;by_cases s4:36<=L.size
     .skip;by_cases s5:n=0\/8<n
      .refine mo (VY q 35 n L _ j.1 s5 ao oo oo M.out) λz k=>?_;go_wp2;exact⟨rfl,QA ⟨λh=>by have:=s.out h;omega,rfl⟩,j.2.2.2.1.trans (k.below.mono ah.out)⟩
      .skip;by_cases s6:36+48*n<=L.size
       .have a7:=j.2.1.lt;have a6:=QD j.1;have a8:=j.2.2.2.2.2.2;refine(X7 q 35 n L _ j.1 oo oo oo oo M.out).mono ?_;rintro e w6 ⟨l,rfl,a9,G,rr,k⟩;rw[show 35+1=36 from rfl]at rr G;generalize X:ij L 36 n n=A at G;replace X:=Qh X;replace j:=(j.next rr k).add (l,Ss A,9) G (by show l≠q;omega) (by show l≠o;omega);have ba:l≠w.heap.size:=oo
        clear rr k G a9 a7 a6 a8;have p:=j.2.1.cell 1;rw[show (prt r (Qc none 0 0) ⟨#[]⟩ ⟨#[]⟩ ⟨#[]⟩ ⟨#[]⟩ ⟨#[]⟩)[1]? =some ((Qc none 0 0))from rfl]at p;have t:=j.2.1.frozen 1;replace j:PI w q o L (36+48*n) (prt r (Qc (some ⟨l,0,none⟩) n n) ⟨#[]⟩ ⟨#[]⟩ ⟨#[]⟩ ⟨#[]⟩ ⟨#[]⟩) [(l,Ss A,9),(w.heap.size,Z,84)] (w6.setCell ⟨o,1,none⟩ (Qc (some ⟨l,0,none⟩) n n)):=j.set 1 _ rfl;go_wp2_with fail;clear p t;generalize w6.setCell ⟨o,1,none⟩ (Qc (some ⟨l,0,none⟩) n n)=w7 at j|-;by_cases s7:68+48*n<=L.size
        .refine(rA q (36+48*n) (32) L _ j.1 oo oo).mono ?_;rintro e w8 ⟨rfl,rr,k⟩;skip;replace j:=j.next rr k;clear rr k;generalize L.extract (36+48*n) (36+48*n+32)=SE at v|-;rw[show 36+48*n+32=68+48*n by omega]at j;have p:=j.2.1.cell 2;rw[show (prt r (Qc (some ⟨l,0,none⟩) n n) ⟨#[]⟩ ⟨#[]⟩ ⟨#[]⟩ ⟨#[]⟩ ⟨#[]⟩)[2]? =some (Qa ⟨#[]⟩)from rfl]at p;have t:=j.2.1.frozen 2;replace j:PI w q o L (68+48*n) (prt r (Qc (some ⟨l,0,none⟩) n n) SE ⟨#[]⟩ ⟨#[]⟩ ⟨#[]⟩ ⟨#[]⟩) [(l,Ss A,9),(w.heap.size,Z,84)] (w8.setCell ⟨o,2,none⟩ (Qa SE)):=j.set 2 _ rfl;go_wp2_with fail;clear p t;generalize w8.setCell ⟨o,2,none⟩ (Qa SE)=w9 at j|-;by_cases s8:72+48*n<=L.size
         .skip;by_cases s9:m<=10000
          .refine(aaj q (68+48*n) m L an _ j.1 oo oo J.out K.out s9).mono ?_;rintro e bq ⟨rfl,rr,k⟩;rw[show 68+48*n+4=72+48*n by omega]at rr;replace j:=j.next rr k;clear rr k;have wm:Qp.wrap ((m:Int)+16)=(m:Int)+16:=by rw[Qq];omega
           go_wp2_with fail;refine mo (SN q (72+48*n) L _ j.1 oo oo) λay k=>?_;replace j:=j.keep k;clear k;generalize L.extract 0 (72+48*n)=u at v|-;have p:=j.2.1.cell 3;rw[show (prt r (Qc (some ⟨l,0,none⟩) n n) SE ⟨#[]⟩ ⟨#[]⟩ ⟨#[]⟩ ⟨#[]⟩)[3]? =some (Qa ⟨#[]⟩)from rfl]at p;have t:=j.2.1.frozen 3;replace j:PI w q o L (72+48*n) (prt r (Qc (some ⟨l,0,none⟩) n n) SE u ⟨#[]⟩ ⟨#[]⟩ ⟨#[]⟩) [(l,Ss A,9),(w.heap.size,Z,84)] (ay.setCell ⟨o,3,none⟩ (Qa u)):=j.set 3 _ rfl;go_wp2_with fail;clear p t;generalize ay.setCell ⟨o,3,none⟩ (Qa u)=bt at j|-;rw[show (m:Int)+16=((m+16:Nat):Int) by omega];by_cases bb:88+48*n+m<=L.size
           .refine(rA q (72+48*n) (m+16) L _ j.1 oo oo).mono ?_;rintro e az ⟨rfl,rr,k⟩;skip;replace j:=j.next rr k;clear rr k;generalize L.extract (72+48*n) (72+48*n+(m+16))=y at v|-;rw[show 72+48*n+(m+16)=88+48*n+m by omega]at j;try rw[show ((m+16:Nat):Int)=(m:Int)+16 by omega]
            have p:=j.2.1.cell 4;rw[show (prt r (Qc (some ⟨l,0,none⟩) n n) SE u ⟨#[]⟩ ⟨#[]⟩ ⟨#[]⟩)[4]? =some (Qa ⟨#[]⟩)from rfl]at p;have t:=j.2.1.frozen 4;replace j:PI w q o L (88+48*n+m) (prt r (Qc (some ⟨l,0,none⟩) n n) SE u y ⟨#[]⟩ ⟨#[]⟩) [(l,Ss A,9),(w.heap.size,Z,84)] (az.setCell ⟨o,4,none⟩ (Qa y)):=j.set 4 _ rfl;go_wp2_with fail;clear p t;generalize az.setCell ⟨o,4,none⟩ (Qa y)=bx at j|-;refine mo (SN q (88+48*n+m) L _ j.1 oo oo) λa2 k=>?_;replace j:=j.keep k;clear k;generalize L.extract 0 (88+48*n+m)=B at v|-;have p:=j.2.1.cell 5;rw[show (prt r (Qc (some ⟨l,0,none⟩) n n) SE u y ⟨#[]⟩ ⟨#[]⟩)[5]? =some (Qa ⟨#[]⟩)from rfl]at p;have t:=j.2.1.frozen 5;replace j:PI w q o L (88+48*n+m) (prt r (Qc (some ⟨l,0,none⟩) n n) SE u y B ⟨#[]⟩) [(l,Ss A,9),(w.heap.size,Z,84)] (a2.setCell ⟨o,5,none⟩ (Qa B)):=j.set 5 _ rfl;go_wp2_with fail;clear p t;generalize a2.setCell ⟨o,5,none⟩ (Qa B)=bz at j|-;by_cases bd:152+48*n+m<=L.size
            .refine(rA q (88+48*n+m) (64) L _ j.1 oo oo).mono ?_;rintro e a3 ⟨rfl,rr,k⟩;skip;replace j:=j.next rr k;clear rr k;generalize L.extract (88+48*n+m) (88+48*n+m+64)=C at v|-;rw[show 88+48*n+m+64=152+48*n+m by omega]at j;have p:=j.2.1.cell 6;rw[show (prt r (Qc (some ⟨l,0,none⟩) n n) SE u y B ⟨#[]⟩)[6]? =some (Qa ⟨#[]⟩)from rfl]at p;have t:=j.2.1.frozen 6;replace j:PI w q o L (152+48*n+m) (prt r (Qc (some ⟨l,0,none⟩) n n) SE u y B C) [(l,Ss A,9),(w.heap.size,Z,84)] (a3.setCell ⟨o,6,none⟩ (Qa C)):=j.set 6 _ rfl;obtain⟨a0,a1⟩:=j.1.at;generalize bk:152+48*n+m=S at j a1;go_wp2_with fail;clear p t a0 a1;generalize a3.setCell ⟨o,6,none⟩ (Qa C)=wz at j|-;by_cases bh:S=L.size
             .rw[show ((S:Int)==(L.size:Int))=true by rw[beq_iff_eq];omega];refine(R.out _).mono ?_;rintro e bX ⟨rfl,rfl⟩;have g1:=j.2.1;have H:=(j.2.2.1 (w.heap.size,Z,84) ss).1;have g3:=(j.2.2.1 (l,Ss A,9) ss).1;have a4:=j.2.2.2.1;have sP:(prt r (Qc (some ⟨l,0,none⟩) n n) SE u y B C).size=7:=rfl;have oP:(prt r (Qc (some ⟨l,0,none⟩) n n) SE u y B C).all (·.oneCell')=true:=Sv _ _ _ _ _ _ _ _;unfold Blk at g1;dsimp only at H;have a5:=H;unfold Blk at H;go_wp2_with (first|(refine ld t84 rfl rfl o rfl g1 sP ?_)|(refine st t84 rfl rfl w.heap.size rfl rfl H sP sZ oP ?_));refine bodyPost_ret (rr t84 rfl rfl (a5.row _) sP) rfl ⟨Or.inl ⟨I.out s0 P oo oo s8 s9 oo,l,by rw[<-v.out l],by rw[X.out];exact g3.other ba _⟩,below_setRow a4 nR _⟩
             .rw[show ((S:Int)==(L.size:Int))=false by rw[beq_eq_false_iff_ne];omega];refine(Q.out _).mono ?_;rintro e z ⟨rfl,rfl⟩;go_wp2;exact⟨rfl,QA ⟨λh=>bh (by have:=s.out h;omega),rfl⟩,j.2.2.2.1⟩
            .refine mo (uQ q (88+48*n+m) (64) L _ j.1 oo oo oo) λz k=>?_;go_wp2;exact⟨rfl,QA ⟨λh=>bd (by have:=s.out h;omega),rfl⟩,j.2.2.2.1.trans (k.mono j.2.2.2.1.size)⟩
           .refine mo (uQ q (72+48*n) (m+16) L _ j.1 oo oo oo) λz k=>?_;go_wp2;exact⟨rfl,QA ⟨λh=>bb (by have:=s.out h;omega),rfl⟩,j.2.2.2.1.trans (k.mono j.2.2.2.1.size)⟩
          .refine mo (Yf q (68+48*n) L an _ j.1 oo oo J.out (by rw[K.out];omega)) λz k=>?_;go_wp2;exact⟨rfl,QA ⟨λh=>s9 (s.out h).2.2.2.2.2.1,rfl⟩,j.2.2.2.1.trans (k.below.mono ah.out)⟩
         .refine mo (Ye q (68+48*n) L _ j.1 oo oo oo) λz k=>?_;go_wp2;exact⟨rfl,QA ⟨λh=>s8 (by have:=s.out h;omega),rfl⟩,j.2.2.2.1.trans (k.mono j.2.2.2.1.size)⟩
        .refine mo (uQ q (36+48*n) (32) L _ j.1 oo oo oo) λz k=>?_;go_wp2;exact⟨rfl,QA ⟨λh=>s7 (by have:=s.out h;omega),rfl⟩,j.2.2.2.1.trans (k.mono j.2.2.2.1.size)⟩
       .refine mo (VX q 35 n L _ j.1 oo oo oo oo oo M.out) λz k=>?_;go_wp2;exact⟨rfl,QA ⟨λh=>s6 (by have:=s.out h;omega),rfl⟩,j.2.2.2.1.trans (k.below.mono ah.out)⟩
     .refine mo (VZ q 35 L _ j.1 oo oo oo) λz k=>?_;go_wp2;exact⟨rfl,QA ⟨λh=>s4 (by have:=s.out h;omega),rfl⟩,j.2.2.2.1.trans (k.mono j.2.2.2.1.size)⟩
    .refine mo (uQ q (3) (32) L _ j.1 oo oo oo) λz k=>?_;go_wp2;exact⟨rfl,QA ⟨λh=>s3 (by have:=s.out h;omega),rfl⟩,j.2.2.2.1.trans (k.mono j.2.2.2.1.size)⟩
   .have ad:=Ht P;rw[show Le_mark.toList=[77,86,49] by rw[QB];rfl]at ad;generalize L.extract 0 3=MK at ad|-;go_wp2_with fail;try rw[ad]
    refine(Q.out _).mono ?_;rintro e E ⟨rfl,rfl⟩;go_wp2;exact⟨rfl,QA ⟨λh=>P (s.out h).2.1,rfl⟩,F⟩
  .refine mo (uQ (w.heap.size+1) 0 3 L w1 N oo oo oo) λw2 k=>?_;go_wp2;exact⟨rfl,QA ⟨λh=>s1 (by have:=s.out h;omega),rfl⟩,D.trans (k.mono D.size)⟩
 .have d1:¬(L.size:Int)<=12000:=oo
  go_enter Qo,Qm;go_wp2_with fail;refine(Q.out _).mono ?_;rintro e bi ⟨rfl,rfl⟩;go_wp2;exact⟨rfl,QA ⟨λh=>s0 (s.out h).1,rfl⟩,T⟩
end Go.Proofs.YtclpbaokadfhhaaGreatDoor
