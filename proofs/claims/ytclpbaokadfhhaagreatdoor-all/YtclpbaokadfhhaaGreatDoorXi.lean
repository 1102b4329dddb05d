import Derived.Test.YtclpbaokadfhhaaGreatDoorXb
set_option maxRecDepth 100000
set_option maxHeartbeats 4000000
open Go.IntKind renaming u64->Qa,wrap_i64->Qc,i64->Qd,wrap_u8->Qe,u8->Qf
open Go.Obj renaming cells->Qg
open Go.BinOp renaming or->Qi,and->Qj
open Go.Value renaming int->Qk,string->Qm,agg->Qn
open Go renaming below_setRow->Qo,heap_alloc2_old->Qp,heap_alloc2_new->Qq,World->Qt
open Go.Proofs.YtclpbaokadfhhaaGreatDoor renaming Ff_M51->Qx
open Int renaming tmod_eq_emod_of_nonneg->Qy
namespace Go.Proofs.YtclpbaokadfhhaaGreatDoor
open Go.RowKit
def bw(x:UInt8):BitVec 64:=BitVec.ofNat 64 x.toNat
theorem adn(x:UInt8):(x.toNat:Int)=U (bw x):=wK x.toNat (by have:=x.toNat_lt;omega)
def cS(f:Nat->UInt8):Nat->List av
 |0=>[0,0,0,0]
 |k+1=>(cS f k).set (k/8) ((cS f k).getD (k/8) 0|||(bw (f k)<<<(k%8*8)))
theorem FM(f:Nat->UInt8)(k:Nat):(cS f k).length=4:=by
 induction k with
 |zero=>rfl
 |succ k a=>rw[cS,List.length_set,a]
def uG(l:List av):List av:=
 [l.getD 0 0&&&Qx,((l.getD 0 0>>>51)|||(l.getD 1 0<<<13))&&&Qx,((l.getD 1 0>>>38)|||(l.getD 2 0<<<26))&&&Qx,((l.getD 2 0>>>25)|||(l.getD 3 0<<<39))&&&Qx,(l.getD 3 0>>>12)&&&Qx]
def ej(s:List UInt8):List av:=uG (cS (λi=>s.getD i 0) 32)
theorem Zg(l:Ql)(h:l.length=4):∃a b c d,l=[a,b,c,d]:=by
 match l,h with
 | [a,b,c,d],_=>exact⟨a,b,c,d,rfl⟩
theorem Cl(s:Qb)(i:Nat)(h:i<s.size)(w:Qt):(Instr.index 9 (Qm s) (Qk Qd (i:Int))).run Tryz.prog w=.ok (Qk Qf ((s.data.toList.getD i 0).toNat:Int)) w:=by
 rw[run_index_string (h:=Tryz.underlying9),dif_pos ⟨oo,oo⟩];have e:(s[(i:Int).toNat]'(oo))=s.data.toList.getD i 0:=by
  show s.data[i]=_
  rw[List.getD_eq_getElem?_getD,List.getElem?_eq_getElem (by simpa using h)];rfl
 rw[e]
theorem aci(s:Qb)(w:Qt)(hs:s.size=32):
  Rw 57 #[Qm s] w (Qn (Ws (ej s.data.toList))):=by
 have b:Blk ((w.alloc (Qg (Ws [0,0,0,0,0]) 69)).alloc (Qg (Ws [0,0,0,0]) 70)) w.heap.size (Ws [0,0,0,0,0]) 69:=Qp w _ _;have d:Blk ((w.alloc (Qg (Ws [0,0,0,0,0]) 69)).alloc (Qg (Ws [0,0,0,0]) 70)) (w.heap.size+1) (Ws [0,0,0,0]) 70:=Qq w _ _;have m:Below w.heap.size w ((w.alloc (Qg (Ws [0,0,0,0,0]) 69)).alloc (Qg (Ws [0,0,0,0]) 70)):=(bR.alloc nR _).alloc ss _;have o:=Qh (p:=ej s.data.toList=uG (cS (λi=>s.data.toList.getD i 0) 32)) rfl
 generalize ej s.data.toList=R at o|-;go_enter Tryz.func57,Tryz.ntmps57;go_wp2_with fail;go_loopw [5] (λc wr=> ∃k:Nat,k<=32/\c=Qk Qd (k:Int)/\Blk wr w.heap.size (Ws [0,0,0,0,0]) 69/\Blk wr (w.heap.size+1) (Ws (cS (λi=>s.data.toList.getD i 0) k)) 70/\Below w.heap.size w wr) (λc _=>32-(intOf c).toNat)
 case atStart=>exact⟨0,oo,rfl,b,d,m⟩
 case round=>
  clear b d m;obtain⟨k,hk,rfl,b,d,m⟩:=hrel;have A:=FM (λi=>s.data.toList.getD i 0) k;by_cases ab:k<32
  .have u:=Qh (p:=cS (λi=>s.data.toList.getD i 0) (k+1)=(cS (λi=>s.data.toList.getD i 0) k).set (k/8) ((cS (λi=>s.data.toList.getD i 0) k).getD (k/8) 0|||(bw (s.data.toList.getD k 0)<<<(k%8*8)))) (by rw[cS])
   generalize cS (λi=>s.data.toList.getD i 0) k=l at d A u;have D:=Cl s k oo;generalize s.data.toList.getD k 0=x at D u;rw[adn]at D;have q1:k/8<4:=oo
   have z:=d.cell (k/8);rw[cQ _ _ oo]at z;have ad:(k:Int)<32:=oo
   -- REGION
   have i1:Qd.wrap ((k:Int)/8)=((k/8:Nat):Int):=by rw[Qc];omega
   have i2:Qd.wrap ((k:Int).tmod 8*8)=((k%8*8:Nat):Int):=by rw[Qc,Qy oo];omega
   have uw:=Oa (bw x);have i5:k%8*8<64:=oo
   have sh:Qa.wrap (U (bw x)*2^(k%8*8))=U (bw x<<<(k%8*8)):=Aa _ _;have ag:=nT (l.getD (k/8) 0) (bw x<<<(k%8*8));have L:=d.frozen (k/8);generalize E:k/8=q at*;generalize G:k%8*8=W at*;generalize F:k%8=r at*;generalize H:l.getD q 0=y at*;replace H:=Qh H;have q2:(q:Int)<4:=oo
   have s2:(W:Int)<64:=oo
   replace E:=Qh E;replace G:=Qh G;replace F:=Qh F;go_wp2_with fail;have a:wr.drew.cell? ⟨w.heap.size+1,q,none⟩=some (Qk Qa (U y)):=z;have I:Blk wr.drew w.heap.size (Ws [0,0,0,0,0]) 69:=b;have n:Blk wr.drew (w.heap.size+1) (Ws l) 70:=d;have B:=m.drew;refine tp (S:=λX=>X.cell? ⟨w.heap.size+1,q,none⟩=some (Qk Qa (U y))) (l:=14) kr ?_;clear b d m z L;generalize World.drew wr=wd at a I n B|-;refine mf 0 a ?_;refine mf 1 a ?_;refine mf 2 a ?_;refine mf 3 a ?_;refine mf 4 a ?_;refine mf 5 a ?_;refine mf 6 a ?_;refine mf 7 a ?_;refine mf 8 a ?_;refine mf 9 a ?_;refine mf 10 a ?_;refine mf 11 a ?_;refine mf 12 a ?_;refine mf 13 a ?_;refine xi kr rfl kr (λK C=>?_);have J:=n.frozen q;go_simp;refine C.out _ _ ?_;clear C K;go_wp2;go_roundw
   case rel=>
    rw[n.set,eC];refine⟨k+1,oo,gn,I.other oo _,?_,Qo B oo _⟩;rw[u.out];exact n.row _
   case measure=>simp[intOf];omega
  .have M:k=32:=oo
   subst M;have t:=o.out;generalize cS (λi=>s.data.toList.getD i 0) 32=l at d A t;obtain⟨h,e,f,g,rfl⟩:=Zg l A;have j:R=[h&&&Qx,((h>>>51)|||(e<<<13))&&&Qx,((e>>>38)|||(f<<<26))&&&Qx,((f>>>25)|||(g<<<39))&&&Qx,(g>>>12)&&&Qx]:=t;have c0:wr.cell? ⟨w.heap.size+1,0,none⟩=some (Qk Qa (U h)):=d.cell 0;have c1:wr.cell? ⟨w.heap.size+1,1,none⟩=some (Qk Qa (U e)):=d.cell 1;have c2:wr.cell? ⟨w.heap.size+1,2,none⟩=some (Qk Qa (U f)):=d.cell 2;have c3:wr.cell? ⟨w.heap.size+1,3,none⟩=some (Qk Qa (U g)):=d.cell 3;have N:=uW h;have O:bits Qj Qa (bits Qi Qa (U h/2251799813685248) (Qa.wrap (U e*8192))) 2251799813685247=U (((h>>>51)|||(e<<<13))&&&Qx):=by
    rw[xM h 2251799813685248 51 rfl,At e 8192 13 rfl,nT,uW]
   have P:bits Qj Qa (bits Qi Qa (U e/274877906944) (Qa.wrap (U f*67108864))) 2251799813685247=U (((e>>>38)|||(f<<<26))&&&Qx):=by
    rw[xM e 274877906944 38 rfl,At f 67108864 26 rfl,nT,uW]
   have Q:bits Qj Qa (bits Qi Qa (U f/33554432) (Qa.wrap (U g*549755813888))) 2251799813685247=U (((f>>>25)|||(g<<<39))&&&Qx):=by
    rw[xM f 33554432 25 rfl,At g 549755813888 39 rfl,nT,uW]
   have T:bits Qj Qa (U g/4096) 2251799813685247=U ((g>>>12)&&&Qx):=by
    rw[xM g 4096 12 rfl,uW]
   clear o t;generalize h&&&Qx=Z at N j;generalize ((h>>>51)|||(e<<<13))&&&Qx=y1 at O j;generalize ((e>>>38)|||(f<<<26))&&&Qx=y2 at P j;generalize ((f>>>25)|||(g<<<39))&&&Qx=y3 at Q j;generalize (g>>>12)&&&Qx=y4 at T j;replace j:=Qh j;obtain⟨d0,d1,d2,d3,d4⟩:=yc b;have J:=b.frozen 0;have f1:=b.frozen 1;have f2:=b.frozen 2;have f3:=b.frozen 3;have f4:=b.frozen 4;go_wp2;rw[M5 b];refine bodyPost_ret (v:=Qn (Ws [Z,y1,y2,y3,y4])) ?_ rfl ⟨by rw[j.out],Qo m oo _⟩;exact results_cell_row rfl _ _ w.heap.size 69 _ (0,0) _ rfl (b.row _) Tryz.underlying69 rfl Tryz.infoF5
def nW(l:List av):List av:=[l.getD 0 0|||(l.getD 1 0<<<51),(l.getD 1 0>>>13)|||(l.getD 2 0<<<38),(l.getD 2 0>>>26)|||(l.getD 3 0<<<25),(l.getD 3 0>>>39)|||(l.getD 4 0<<<12)]
def qS(l:List av)(i:Nat):UInt8:=(l.getD (i/8) 0>>>(i%8*8)).toNat.toUInt8
def br(l:List av):Nat->List UInt8
 |0=>aq 32
 |k+1=>(br l k).set k (qS l k)
theorem mJ(l:List av)(k:Nat):(br l k).length=32:=by
 induction k with
 |zero=>rfl
 |succ k a=>rw[br,List.length_set,a]
def fv(a:List av):List UInt8:=br (nW (aW a)) 32
theorem jD(a:List av):(fv a).length=32:=mJ _ _
theorem GV(x:Qv):Qf.wrap (U x)=((x.toNat.toUInt8).toNat:Int):=by
 rw[Qe];unfold U;simp
theorem UZ(w:Qt):Sem.run Tryz.prog (zeroValue 130) w=.ok (Qn (Bs (aq 32))) w:=kr
theorem Lh(a:Ql)(w:Qt)(K:a.length=5):
  Rw 58 #[Qn (Ws a)] w (Qm ⟨(fv a).toArray⟩):=by
 have sa:=Wz K;have hz:=UZ;have B:=Qh (p:=fv a=br (nW (aW a)) 32) rfl
 generalize fv a=R at B|-;have Z:(aW a).length=5:=by rw[oV,K]
 have F:=Qr λwx=>zN a wx K
 generalize aW a=b at F Z B;obtain⟨s,d,f,h,n,rfl⟩:=bH b Z;have t:R=br [s|||(d<<<51),(d>>>13)|||(f<<<38),(f>>>26)|||(h<<<25),(h>>>39)|||(n<<<12)] 32:=B.out;clear B;have p0:bits Qi Qa (U s) (Qa.wrap (U d*2251799813685248))=U (s|||(d<<<51)):=by rw[At d 2251799813685248 51 rfl,nT]
 have p1:bits Qi Qa (U d/8192) (Qa.wrap (U f*274877906944))=U ((d>>>13)|||(f<<<38)):=by rw[xM d 8192 13 rfl,At f 274877906944 38 rfl,nT]
 have p2:bits Qi Qa (U f/67108864) (Qa.wrap (U h*33554432))=U ((f>>>26)|||(h<<<25)):=by rw[xM f 67108864 26 rfl,At h 33554432 25 rfl,nT]
 have p3:bits Qi Qa (U h/549755813888) (Qa.wrap (U n*4096))=U ((h>>>39)|||(n<<<12)):=by rw[xM h 549755813888 39 rfl,At n 4096 12 rfl,nT]
 generalize s|||(d<<<51)=i at p0 t
 generalize (d>>>13)|||(f<<<38)=j at p1 t
 generalize (f>>>26)|||(h<<<25)=l at p2 t
 generalize (h>>>39)|||(n<<<12)=m at p3 t
 replace t:=Qh t;have D:Blk (w.alloc (Qg (Ws a) 69)) w.heap.size (Ws a) 69:=Blk.new w _ _;have C:Below w.heap.size w (w.alloc (Qg (Ws a) 69)):=bR.alloc nR _;have I:=D;unfold Blk at I;go_enter Tryz.func58,Tryz.ntmps58;go_wp2_with (refine ld t69 rfl rfl w.heap.size rfl I sa ?_);generalize w.alloc (Qg (Ws a) 69)=w1 at D C|-;clear I;refine gv F λP N=>?_
 clear F;have L:=D.keep N;have Q:=C.trans (N.mono C.size);clear D C N;have J:=L;unfold Blk at J;have sb:(Ws [s,d,f,h,n]).size=5:=rfl;have E:=L.row (Ws [s,d,f,h,n]);have H:=Qo Q (show w.heap.size<=w.heap.size by omega) (Ws [s,d,f,h,n]);obtain⟨c0,c1,c2,c3,c4⟩:=yc E;go_wp2_with (refine st t69 rfl rfl w.heap.size rfl rfl J sb sa (aZ _) ?_);have ab:(P.setRow w.heap.size (Ws [s,d,f,h,n])).heap.size=P.heap.size:=by simp[World.setRow]
 clear c0 c1 c2 c3 c4 p0 p1 p2 p3 J L Q hz;generalize P.setRow w.heap.size (Ws [s,d,f,h,n])=r at E H ab|-;have ap:=E.lt;have x:Blk ((r.alloc (Qg #[Qk Qa (U i),Qk Qa (U j),Qk Qa (U l),Qk Qa (U m)] 70)).alloc (Qg (Bs (aq 32)) 130)) r.heap.size (Ws [i,j,l,m]) 70:=Qp r _ _;have o:Blk ((r.alloc (Qg #[Qk Qa (U i),Qk Qa (U j),Qk Qa (U l),Qk Qa (U m)] 70)).alloc (Qg (Bs (aq 32)) 130)) (r.heap.size+1) (Bs (aq 32)) 130:=Qq r _ _;have u:Below w.heap.size w ((r.alloc (Qg #[Qk Qa (U i),Qk Qa (U j),Qk Qa (U l),Qk Qa (U m)] 70)).alloc (Qg (Bs (aq 32)) 130)):=(H.alloc oo _).alloc (by simp;omega) _;clear E H;generalize (r.alloc (Qg #[Qk Qa (U i),Qk Qa (U j),Qk Qa (U l),Qk Qa (U m)] 70)).alloc (Qg (Bs (aq 32)) 130)=w4 at x o u|-;rw[<-ab]at*;generalize r.heap.size=g at*;go_loopw [36] (λc wr=> ∃k:Nat,k<=32/\c=Qk Qd (k:Int)/\Blk wr g (Ws [i,j,l,m]) 70/\Blk wr (g+1) (Bs (br [i,j,l,m] k)) 130/\Below w.heap.size w wr) (λc _=>32-(intOf c).toNat)
 case atStart=>exact⟨0,oo,rfl,x,o,u⟩
 case round=>
  clear x o u;obtain⟨k,hk,rfl,x,o,u⟩:=hrel;have hl:=mJ [i,j,l,m] k;by_cases an:k<32
  .have G:=Qh (p:=br [i,j,l,m] (k+1)=(br [i,j,l,m] k).set k ((([i,j,l,m]:List (BitVec 64)).getD (k/8) 0>>>(k%8*8)).toNat.toUInt8)) (by rw[br];rfl)
   have W:=x.cell (k/8);rw[cQ _ _ (show k/8<4 by omega)]at W;have S:=o.cell k;rw[pY _ _ oo]at S;have fo:=o.frozen k;have i1:Qd.wrap ((k:Int)/8)=((k/8:Nat):Int):=by rw[Qc];omega
   have i2:Qd.wrap ((k:Int).tmod 8*8)=((k%8*8:Nat):Int):=by rw[Qc,Qy oo];omega
   have q2:((k/8:Nat):Int)<4:=oo
   have s2:((k%8*8:Nat):Int)<64:=oo
   generalize hq:k/8=q at*;generalize M:k%8*8=A at*;replace hq:=Qh hq;replace M:=Qh M;generalize ([i,j,l,m]:List (BitVec 64)).getD q 0=y at W G;generalize (br [i,j,l,m] k).getD k 0=z at S;have sh:=vq y A;have O:=GV (y>>>A);have ad:Qf.wrap (U y/2^A)=((y>>>A).toNat.toUInt8.toNat:Int):=by rw[sh,O]
   generalize (y>>>A).toNat.toUInt8=v at G O ad;clear O sh;have ao:(k:Int)<32:=oo
   go_wp2;go_roundw
   case rel=>
    have e:U y/2^(k%8*8)%256=(v.toNat:Int):=by rw[M.out,<-Qe,ad]
    rw[e,o.set,tn];refine⟨k+1,oo,gn,x.other oo _,?_,Qo u oo _⟩;rw[G.out];exact o.row _
   case measure=>simp[intOf];omega
  .have ag:k=32:=oo
   subst ag;have ah:=gc (cap:=32) o 32 hl.symm;generalize X:br [i,j,l,m] 32=T at ah;have HT:=Qh X;clear X;go_wp2;go_ret;exact⟨by rw[t.out,HT.out];rfl,u⟩
end Go.Proofs.YtclpbaokadfhhaaGreatDoor
