import Derived.Test.YtclpbaokadfhhaaGreatDoorZa
set_option maxRecDepth 100000
set_option maxHeartbeats 1000000
open Go.IntKind renaming u32->Qa,wrap_u32->Qc,i64->Qd,u64->Qe
open Go.Value renaming int->Qf,pointer->Qg,string->Qi,tuple->Qj
open List renaming getElem?_eq_getElem->Qk,getD->Qm,mem_toArray->Qn,mem_map->Qo
open Go renaming World->Qp,Calls->Qq,below_setRow->Qt,Value->Qx
open BitVec renaming ofInt->Qy,ofNat->Qz
open Go.Proofs.Tryz renaming prog->QA
open ByteArray renaming getElem_eq_getElem_data->QB
open Array renaming all_eq_true_iff_forall_mem->QC
open Nat renaming zero_le->QD,mod_eq_of_lt->QE
open Go.Ending renaming returned->QF
open Go.RowKit renaming intOf->QG,Below->QH
namespace Go.Proofs.YtclpbaokadfhhaaGreatDoor
open Go.RowKit
def V(x:BitVec 32):Int:=x.toNat
theorem XR(x:BitVec 32):0<=V x:=by unfold V;omega
theorem XT(x:BitVec 32):V x<4294967296:=by unfold V;have:=x.isLt;omega
theorem VN(x:BitVec 32):Qa.wrap (V x)=V x:=by
 rw[Qc];have a:=XR x;have h2:=XT x;omega
theorem Cr(x y:BitVec 32):Qa.wrap (V x+V y)=V (x+y):=by
 rw[Qc];unfold V;rw[BitVec.toNat_add];simp
theorem Fy(x:BitVec 32):Qy 32 (V x)=x:=by
 unfold V;rw[BitVec.ofInt_natCast];simp
theorem Iq(x y:BitVec 32):bits .xor Qa (V x) (V y)=V (x^^^y):=by
 show Qa.wrap ((Qy 32 (V x)^^^Qy 32 (V y)).toNat:Int)=_
 rw[Fy,Fy];exact VN _
theorem XQ(x y:BitVec 32):bits .or Qa (V x) (V y)=V (x|||y):=by
 show Qa.wrap ((Qy 32 (V x)|||Qy 32 (V y)).toNat:Int)=_
 rw[Fy,Fy];exact VN _
theorem acy(x:BitVec 32)(k:Nat):Qa.wrap (V x*2^k)=V (x<<<k):=by
 rw[Qc];unfold V;rw[BitVec.toNat_shiftLeft,Nat.shiftLeft_eq];simp
theorem TH(x:BitVec 32)(k:Nat):V x/2^k=V (x>>>k):=by
 unfold V;rw[BitVec.toNat_ushiftRight,Nat.shiftRight_eq_div_pow];simp
theorem TJ(n:Nat)(h:n<4294967296):(n:Int)=V (Qz 32 n):=by
 unfold V;rw[BitVec.toNat_ofNat,QE (by simpa using h)]
theorem Bj(x y:BitVec 32):(V x+V y)%4294967296=V (x+y):=by rw[<-Cr,Qc]
theorem N8(x:BitVec 32)(k:Nat):V x*2^k%4294967296=V (x<<<k):=by rw[<-acy,Qc]
theorem acz(x:BitVec 32):V x%4294967296=V x:=by have a:=XR x;have h2:=XT x;omega
theorem gh(s:Qb)(k:Nat)(h:k<s.size):s[k]=s.data.toList.getD k 0:=by
 have h2:k<s.data.toList.length:=by simpa using h
 rw[List.getD_eq_getElem?_getD,Qk h2];simp[QB]
def Vs(l:List (BitVec 32)):Array Qx:=(l.map λx=>Qf Qa (V x)).toArray
theorem Bi(l:List (BitVec 32)):(Vs l).size=l.length:=by simp[Vs]
theorem Vz{l:List (BitVec 32)}{n:Nat}(h:l.length=n):(Vs l).size=n:=by rw[Bi,h]
theorem abP(l:List (BitVec 32))(i:Nat):(Vs l)[i]? =l[i]?.map λx=>Qf Qa (V x):=by simp[Vs]
theorem ui(l:List (BitVec 32))(i:Nat)(h:i<l.length):(Vs l)[i]? =some (Qf Qa (V (l.getD i 0))):=by
 rw[abP,Qk h];simp[Qm,Qk h]
theorem Ip(l:List (BitVec 32))(i:Nat)(x:BitVec 32):(Vs l).setIfInBounds i (Qf Qa (V x))=Vs (l.set i x):=by
 simp[Vs,List.map_set]
theorem tU(l:List (BitVec 32)):(Vs l).all (·.oneCell')=true:=by
 rw[QC];intro v a;simp only[Vs,Qn,Qo]at a;obtain⟨x,_,rfl⟩:=a;rfl
theorem Pw(l:Qu):(Bs l).all (·.oneCell')=true:=by
 rw[QC];intro v a;simp only[Bs,Qn,Qo]at a;obtain⟨x,_,rfl⟩:=a;rfl
def ig(x:BitVec 32)(n:Nat):BitVec 32:=x<<<n|||x>>>(32-n)
def iu(f:Nat->UInt8):Nat->BitVec 32
 |0=>0
 |k+1=>iu f k|||Qz 32 (f k).toNat<<<(8*k)
def qU(x:BitVec 32)(k:Nat):UInt8:=UInt8.ofNat (x>>>(8*k)).toNat
def pK(l:List UInt8)(off:Nat)(x:BitVec 32):Nat->List UInt8
 |0=>l
 |k+1=>(pK l off x k).set (off+k) (qU x k)
theorem yv(l:Qu)(off:Nat)(x:BitVec 32)(k:Nat):(pK l off x k).length=l.length:=by
 induction k with
 |zero=>rfl
 |succ k a=>simp[pK,a]
theorem Ps(x:BitVec 32)(k:Nat):V x/2^(8*k)%256=((qU x k).toNat:Int):=by
 rw[TH];unfold qU V;simp
def mC(l:List (BitVec 32))(g b t n:Nat):List (BitVec 32):=
 (l.set g (l.getD g 0+l.getD b 0)).set t (ig (l.getD t 0^^^(l.getD g 0+l.getD b 0)) n)
theorem j9(l:List (BitVec 32))(g b t n:Nat):(mC l g b t n).length=l.length:=by simp[mC]
def aN(l:List (BitVec 32))(a b c d:Nat):List (BitVec 32):=mC (mC (mC (mC l a b d 16) c d b 12) a b d 8) c d b 7
theorem dh(l:List (BitVec 32))(a b c d:Nat):(aN l a b c d).length=l.length:=by simp[aN,j9]
def uY(l:List (BitVec 32)):List (BitVec 32):=
 aN (aN (aN (aN (aN (aN (aN (aN l 0 4 8 12) 1 5 9 13) 2 6 10 14) 3 7 11 15) 0 5 10 15) 1 6 11 12) 2 7 8 13) 3 4 9 14
theorem Lm(l:List (BitVec 32)):(uY l).length=l.length:=by simp[uY,dh]
theorem vh{α:Type}(l:List α)(i j:Nat)(x d:α)(h:i≠j):(l.set i x).getD j d=l.getD j d:=by
 simp[Qm,h]
theorem xr{α:Type}(l:List α)(i:Nat)(x d:α)(h:i<l.length):(l.set i x).getD i d=x:=by
 simp[Qm,h]
theorem wG(x:BitVec 32)(c:UInt8)(k:Nat):bits BinOp.or Qa (V x) ((c.toNat:Int)%4294967296*2^(8*k)%4294967296)=V (x|||Qz 32 c.toNat<<<(8*k)):=by
 have h:=c.toNat_lt;rw[TJ c.toNat oo,acz,N8,XQ]
theorem VA(s:Qb)(f:Nat->UInt8)(w:Qp)(l:4<=s.size)(j:s.size<=9223372036854775807)(a:∀i,i<4->s.data.toList.getD i 0=f i):
  Qq QA 242 #[Qi s] w λe w'=>e=QF (Qf Qa (V (iu f 4)))/\w'=w:=by
 go_enter Tryz.func242,Tryz.ntmps242;go_wp2;go_loop [3,5] (λx i=> ∃k:Nat,k<=4/\i=Qf Qd k/\x=Qf Qa (V (iu f k))) (λ_ i=>4-(QG i).toNat)
 case atStart=>exact⟨0,QD _,rfl,rfl⟩
 case round=>
  obtain⟨k,h,rfl,rfl⟩:=hrel;by_cases g:k<4
  .have c:=a k g;clear a;have b:=Qh (wG (iu f k) (f k) k);have d:k<s.size:=oo
   rw[<-gh s k d]at c;go_wp2;go_round
   case rel=>exact⟨k+1,oo,gn,cH b.out⟩
   case measure=>simp[QG];omega
  .have:k=4:=oo
   subst this;go_wp2;go_ret;exact⟨rfl,rfl⟩
theorem NQ(b off c cap t:Nat)(l:Qu)(x:BitVec 32)(w:Qp)(g:4<=c)(m:c<=9223372036854775807)(_:c<=cap)
  (a:Blk w b (Bs l) t) (h:off+4<=l.length):
  Qq QA 216 #[.slice (some ⟨b,off,none⟩) c cap,Qf Qa (V x)] w λe w'=>e=QF (Qj #[])/\w'=w.setRow b (Bs (pK l off x 4)):=by
 go_enter Tryz.func216,Tryz.ntmps216;go_wp2;go_loopw [5] (λi wr=> ∃k:Nat,k<=4/\i=Qf Qd k/\wr=w.setRow b (Bs (pK l off x k))) (λi _=>4-(QG i).toNat)
 case atStart=>exact⟨0,QD _,rfl,(setRow_self w b _ t (0,0) a).symm⟩
 case round=>
  obtain⟨k,f,rfl,rfl⟩:=hrel;by_cases j:k<4
  .have d:=(a.row (Bs (pK l off x k))).cell (off+k);rw[pY _ _ (by rw[yv];omega)]at d;have h2:=(a.row (Bs (pK l off x k))).frozen (off+k);go_wp2;go_roundw
   case rel=>exact⟨k+1,oo,gn,by rw[Ps,(a.row _).set,setRow_setRow,tn];rfl⟩
   case measure=>simp[QG];omega
  .have:k=4:=oo
   subst this;go_wp2;go_end0
   exact⟨rfl,rfl⟩
theorem acx(n:Nat)(h:n<32):bits BinOp.and Qe (n:Int) 31=n:=by
 rw[show (31:Int)=((31:Nat):Int)from rfl,bits_and_u64_nat _ _ oo oo];have a:(31:Nat)=2^5-1:=rfl;rw[a,Nat.and_two_pow_sub_one_eq_mod,QE oo]
theorem Xl(x:BitVec 32)(m:Int)(w:Qp)(h0:0<m)(c:m<32):
  Qq QA 273 #[Qf Qa (V x),Qf Qd m] w λe w'=>e=QF (Qf Qa (V (ig x m.toNat)))/\w'=w:=by
 obtain⟨n,rfl⟩:=Int.eq_ofNat_of_zero_le (by omega:0<=m);rw[Int.toNat_natCast];have b:=acx n oo;have a:=Qh (p:=bits BinOp.or Qa (V x*2^n%4294967296) (V x/2^(32-n))=V (ig x n)) (by rw[N8,TH,XQ];rfl)
 go_enter Tryz.func273,Tryz.ntmps273;go_wp2;go_ret;exact⟨rO a.out,rfl⟩
theorem ZM(l:List (BitVec 32))(g b t n:Nat)(c:l.length=16)(a:g<16)(_:t<16)(h2:g≠t):
  (l.set g (l.getD g 0+l.getD b 0)).set t (ig ((l.set g (l.getD g 0+l.getD b 0)).getD t 0^^^(l.set g (l.getD g 0+l.getD b 0)).getD g 0) n)=mC l g b t n:=by
 rw[vh _ _ _ _ _ h2,xr _ _ _ _ oo];rfl
theorem ZN(p g b t:Nat)(n:Int)(l:List (BitVec 32))(w:Qp)(d:Blk w p (Vs l) 203)(o:l.length=16)(B:g<16)(M:b<16)(ht:t<16)(C:g≠t)(F:0<n)(E:n<32):
  Qq QA 264 #[Qg (some ⟨p,0,none⟩),Qf Qd g,Qf Qd b,Qf Qd t,Qf Qd n] w λe w'=>e=QF (Qj #[])/\Blk w' p (Vs (mC l g b t n.toNat)) 203/\QH p w w'/\w'.heap.size=w.heap.size:=by
 have f:=d.cell g;rw[ui _ _ oo]at f;have h:=d.cell b;rw[ui _ _ oo]at h;have A:=d.frozen g;have N:(g:Int)<16:=oo
 have O:(b:Int)<16:=oo
 have P:(t:Int)<16:=oo
 have c:=Qh (ZM l g b t n.toNat o B ht C);generalize q:l.getD g 0=x at f c;generalize r:l.getD b 0=y at h c;have H:=Qh q;have I:=Qh r;clear q r;go_enter Tryz.func264,Tryz.ntmps264;go_wp2_with fail;go_region
 go_wp2_with fail;rw[Bj,d.set,Ip];have a:Blk (w.setRow p (Vs (l.set g (x+y)))).drew p (Vs (l.set g (x+y))) 203:=d.row _;have j:QH p w (w.setRow p (Vs (l.set g (x+y)))).drew:=(Qt bR nR _).drew;have s:=Qh (p:=(w.setRow p (Vs (l.set g (x+y)))).drew.heap.size=w.heap.size) ss
 generalize (w.setRow p (Vs (l.set g (x+y)))).drew=G at a j s|-;have D:(l.set g (x+y)).length=16:=by simp[o]
 generalize K:l.set g (x+y)=L at a D c;clear f h A d;have k:=a.cell t;rw[ui _ _ oo]at k;have m:=a.cell g;rw[ui _ _ oo]at m;have J:=a.frozen t;generalize L.getD t 0=u at k c;generalize L.getD g 0=v at m c;have Q:∀(i:Qp) (z:Qx),(i.setCell ⟨p,t,none⟩ z).cell? ⟨p,g,none⟩=i.cell? ⟨p,g,none⟩:=λi z=>mi _ _ _ _ _ oo
 go_region_with (first|(go_at_call 273;rw[Iq];refine(Xl _ _ _ F E).mono ?_;rintro e w' ⟨rfl,rfl⟩))
 all_goals
  go_wp2;go_end0
  refine⟨rfl,?_,?_,?_⟩
  .rw[a.set,Ip,show L.set t (ig (u^^^v) n.toNat)=mC l g b t n.toNat from c.out];exact a.row _
  .rw[a.set];exact(Qt j nR _).drew
  .rw[a.set,<-show G.heap.size=w.heap.size from s.out];simp
def Turns(p:Nat)(l':List (BitVec 32))(w:Qp)(e:Ending)(w':Qp):Prop:=
 e=QF (Qj #[])/\Blk w' p (Vs l') 203/\QH p w w'/\w'.heap.size=w.heap.size
theorem Turns.trans{p:Nat}{g c:List (BitVec 32)}{w d e:Qp}{f a:Ending}(b:Turns p g w f d)(h2:Turns p c d a e):Turns p c w a e:=
 ⟨h2.1,h2.2.1,b.2.2.1.trans h2.2.2.1,h2.2.2.2.trans b.2.2.2⟩
theorem MZ(p g b t:Nat)(n:Int)(l:List (BitVec 32))(w:Qp)(a:Blk w p (Vs l) 203)(f:l.length=16)(d:g<16)(c:b<16)(ht:t<16)(e:g≠t)(i:0<n)(h:n<32):
  Qq QA 264 #[Qg (some ⟨p,0,none⟩),Qf Qd g,Qf Qd b,Qf Qd t,Qf Qd n] w (Turns p (mC l g b t n.toNat) w):=
 ZN p g b t n l w a f d c ht e i h
theorem Vj(p a b c d:Nat)(l:List (BitVec 32))(w:Qp)(r:Blk w p (Vs l) 203)(g:l.length=16)(m:a<16)(e:b<16)(o:c<16)(f:d<16)(n:a≠d)(q:c≠b):
  Qq QA 243 #[Qg (some ⟨p,0,none⟩),Qf Qd a,Qf Qd b,Qf Qd c,Qf Qd d] w (Turns p (aN l a b c d) w):=by
 have j:=Qh (p:=aN l a b c d=mC (mC (mC (mC l a b d 16) c d b 12) a b d 8) c d b 7) rfl
 generalize aN l a b c d=L at j|-;go_enter Tryz.func243,Tryz.ntmps243;go_wp2_with fail;refine(MZ p a b d 16 l w r g m e f n dd dd).mono ?_;rintro z v h;obtain rfl:=h.1;go_wp2_with fail;refine(MZ p c d b 12 _ v h.2.1 (by simp[j9,g]) o f e q dd dd).mono ?_;rintro A x h2;have s:=h.trans h2;obtain rfl:=h2.1;go_wp2_with fail;refine(MZ p a b d 8 _ x h2.2.1 (by simp[j9,g]) m e f n dd dd).mono ?_;rintro B y i;have t:=s.trans i;obtain rfl:=i.1;go_wp2_with fail;refine(MZ p c d b 7 _ y i.2.1 (by simp[j9,g]) o f e q dd dd).mono ?_;rintro C D k;have u:=t.trans k;obtain rfl:=k.1;go_wp2;go_end0
 rw[show L=_ from j.out];exact u
theorem qK(p:Nat)(a b c d:Int)(l:List (BitVec 32))(w:Qp)(e:Blk w p (Vs l) 203)(f:l.length=16)(g:0<=a/\a<16)(i:0<=b/\b<16)(j:0<=c/\c<16)(m:0<=d/\d<16)(h:a≠d)(k:c≠b):
  Qq QA 243 #[Qg (some ⟨p,0,none⟩),Qf Qd a,Qf Qd b,Qf Qd c,Qf Qd d] w (Turns p (aN l a.toNat b.toNat c.toNat d.toNat) w):=by
 have:=Vj p a.toNat b.toNat c.toNat d.toNat l w e f oo oo oo oo oo oo;rw[show ((a.toNat:Nat):Int)=a by omega,show ((b.toNat:Nat):Int)=b by omega,show ((c.toNat:Nat):Int)=c by omega,show ((d.toNat:Nat):Int)=d by omega]at this;exact this
theorem abj(p:Nat)(l:List (BitVec 32))(w:Qp)(j:Blk w p (Vs l) 203)(a:l.length=16):
  Qq QA 215 #[Qg (some ⟨p,0,none⟩)] w (Turns p (uY l) w):=by
 have h:=Qh (p:=uY l=aN (aN (aN (aN (aN (aN (aN (aN l 0 4 8 12) 1 5 9 13) 2 6 10 14) 3 7 11 15) 0 5 10 15) 1 6 11 12) 2 7 8 13) 3 4 9 14) rfl
 generalize uY l=L at h|-;go_enter Tryz.func215,Tryz.ntmps215;go_wp2_with fail;refine(qK p 0 4 8 12 l w j a dd dd dd dd dd dd).mono ?_;rintro B t b;obtain rfl:=b.1;go_wp2_with fail;refine(qK p 1 5 9 13 _ t b.2.1 (by simp[dh,a]) dd dd dd dd dd dd).mono ?_;rintro C u h2;have k:=b.trans h2;obtain rfl:=h2.1;go_wp2_with fail;refine(qK p 2 6 10 14 _ u h2.2.1 (by simp[dh,a]) dd dd dd dd dd dd).mono ?_;rintro D v c;have m:=k.trans c;obtain rfl:=c.1;go_wp2_with fail;refine(qK p 3 7 11 15 _ v c.2.1 (by simp[dh,a]) dd dd dd dd dd dd).mono ?_;rintro E x d;have n:=m.trans d;obtain rfl:=d.1;go_wp2_with fail;refine(qK p 0 5 10 15 _ x d.2.1 (by simp[dh,a]) dd dd dd dd dd dd).mono ?_;rintro F y e;have o:=n.trans e;obtain rfl:=e.1;go_wp2_with fail;refine(qK p 1 6 11 12 _ y e.2.1 (by simp[dh,a]) dd dd dd dd dd dd).mono ?_;rintro G z f;have q:=o.trans f;obtain rfl:=f.1;go_wp2_with fail;refine(qK p 2 7 8 13 _ z f.2.1 (by simp[dh,a]) dd dd dd dd dd dd).mono ?_;rintro H A g;have r:=q.trans g;obtain rfl:=g.1;go_wp2_with fail;refine(qK p 3 4 9 14 _ A g.2.1 (by simp[dh,a]) dd dd dd dd dd dd).mono ?_;rintro I J i;have s:=r.trans i;obtain rfl:=i.1;go_wp2;go_end0
 rw[show L=_ from h.out];exact s
def cL(W:Nat->BitVec 32)(k:Nat):List (BitVec 32):=(List.range 16).map λi=>if i<k then W i else 0
theorem iK(W:Nat->BitVec 32)(k:Nat):(cL W k).length=16:=by simp[cL]
theorem Pm(W:Nat->BitVec 32)(k:Nat)(b:k<16):(cL W k).set k (W k)=cL W (k+1):=by
 apply List.ext_getElem?
 intro i;rw[List.getElem?_set];by_cases h:k=i
 .subst h;simp[cL,b]
 .rw[if_neg h];by_cases a:i<16
  .simp only[cL,List.getElem?_map,List.getElem?_range a,Option.map_some];congr 1
   by_cases h2:i<k
   .rw[if_pos h2,if_pos oo]
   .rw[if_neg h2,if_neg oo]
  .simp[cL,a]
theorem GM(W:Nat->BitVec 32)(i:Nat)(h:i<16):(cL W 16).getD i 0=W i:=by simp[cL,Qm,h]
def Cc_consts:List (BitVec 32):=[1634760805,857760878,2036477234,1797285236]
def kw(s:ByteArray)(o:Nat):BitVec 32:=iu (λi=>s.data.toList.getD (o+i) 0) 4
def fX(key:ByteArray)(c:BitVec 32)(adu:ByteArray)(i:Nat):BitVec 32:=
 if i<4 then Cc_consts.getD i 0 else if i<12 then kw key ((i-4)*4)else if i=12 then c else kw adu ((i-13)*4)
theorem NM(s:Qb)(o n:Nat)(w:Qp)(d:o+4<=s.size)(a:n=s.size)(c:s.size<=9223372036854775807):
  Qq QA 242 #[Qi (s.extract o n)] w λe w'=>e=QF (Qf Qa (V (kw s o)))/\w'=w:=by
 subst a;refine VA _ _ w (by simp;omega) (by simp;omega) ?_;intro i b;rw[<-gh _ _ (by simp;omega),<-gh s (o+i) oo];simp[QB]
def Z16:Array Qx:=#[Qf Qa 0,Qf Qa 0,Qf Qa 0,Qf Qa 0,Qf Qa 0,Qf Qa 0,Qf Qa 0,Qf Qa 0,Qf Qa 0,Qf Qa 0,Qf Qa 0,Qf Qa 0,Qf Qa 0,Qf Qa 0,Qf Qa 0,Qf Qa 0]
def F16:Array Qx:=#[Qf Qa 1634760805,Qf Qa 857760878,Qf Qa 2036477234,Qf Qa 1797285236,Qf Qa 0,Qf Qa 0,Qf Qa 0,Qf Qa 0,Qf Qa 0,Qf Qa 0,Qf Qa 0,Qf Qa 0,Qf Qa 0,Qf Qa 0,Qf Qa 0,Qf Qa 0]
def nS:List (BitVec 32):=List.replicate 16 0
theorem abN:Z16=Vs nS:=kr
theorem WT(b a:Qb)(c:BitVec 32):F16=Vs (cL (fX b c a) 4):=kr
theorem Tryz.info16V:(QA.info? 203).map (·.size)=some 16:=kr
theorem pZ:Ty 203 16:=⟨_,Tryz.underlying203,rfl,Tryz.info16V⟩
theorem rM{w wr:Qp}{B k t:Nat}{x:BitVec 32}{W:Nat->BitVec 32}(f:k<16)(b:Blk wr B (Vs (cL W k)) t)(g:w.heap.size<=B)(d:QH w.heap.size w wr)(i:x=W k):
  Blk (wr.setCell ⟨B,k,none⟩ (Qf Qa (V x))) B (Vs (cL W (k+1))) t/\(∀b' a c,b'≠B->Blk wr b' a c->Blk (wr.setCell ⟨B,k,none⟩ (Qf Qa (V x))) b' a c)/\QH w.heap.size w (wr.setCell ⟨B,k,none⟩ (Qf Qa (V x))):=by
 subst i;refine⟨?_,?_,d.setCell g _⟩
 .rw[b.set,Ip,Pm _ _ f];exact b.row _
 .intro b' a c h e;rw[b.set];exact e.other h _
theorem Lz(a b:Qb)(c:BitVec 32)(k:Nat)(h:k<8):kw a (k*4)=fX a c b (4+k):=by
 unfold fX;rw[if_neg oo,if_pos oo];congr 2;omega
theorem FU(b a:Qb)(c:BitVec 32)(k:Nat)(h:k<3):kw a (k*4)=fX b c a (13+k):=by
 unfold fX;rw[if_neg oo,if_neg oo,if_neg oo];congr 2;omega
theorem FV(b a:Qb)(c:BitVec 32):c=fX b c a 12:=by
 unfold fX;rw[if_neg oo,if_neg oo,if_pos rfl]
theorem KH(d b:Qb)(c:BitVec 32)(w:Qp)(G:d.size=32)(H:b.size=12):
  Rw 214 #[Qi d,Qf Qa (V c),Qi b] w (.agg (Vs (cL (fX d c b) 16))):=by
 have q:=Qh λk h=>Lz d b c k h
 have r:=Qh λk h=>FU d b c k h
 have p:=Qh (FV d b c);have m:=Qh (WT d b c);generalize fX d c b=W at q r p m|-;go_enter Tryz.func214,Tryz.ntmps214;go_wp2;rw[<-show Z16=#[Qf Qa 0,Qf Qa 0,Qf Qa 0,Qf Qa 0,Qf Qa 0,Qf Qa 0,Qf Qa 0,Qf Qa 0,Qf Qa 0,Qf Qa 0,Qf Qa 0,Qf Qa 0,Qf Qa 0,Qf Qa 0,Qf Qa 0,Qf Qa 0]from rfl,
  <-show F16=#[Qf Qa 1634760805,Qf Qa 857760878,Qf Qa 2036477234,Qf Qa 1797285236,Qf Qa 0,Qf Qa 0,Qf Qa 0,Qf Qa 0,Qf Qa 0,Qf Qa 0,Qf Qa 0,Qf Qa 0,Qf Qa 0,Qf Qa 0,Qf Qa 0,Qf Qa 0]from rfl]
 rw[abN,show F16=_ from m.out];clear m;go_loopw [11] (λi wr=> ∃k:Nat,k<=8/\i=Qf Qd k/\Blk wr (w.heap.size+1) (Vs (cL W (4+k))) 203/\Blk wr w.heap.size (Vs nS) 203/\QH w.heap.size w wr) (λi _=>8-(QG i).toNat)
 case atStart=>
  refine⟨0,QD _,rfl,?_,?_,(bR.alloc nR _).alloc ss _⟩
  .exact heap_alloc2_new w _ _
  .exact heap_alloc2_old w _ _
 case round=>
  obtain⟨k,E,rfl,a,g,j⟩:=hrel;by_cases o:k<8
  .have f:=a.cell (4+k);rw[ui _ _ (by rw[iK];omega)]at f;have n:=a.frozen (4+k);have F:(k:Int)<8:=oo
   go_wp2_with (first|(go_at_call 242;go_must (refine(NM d (k*4) _ _ oo oo oo).mono ?_);rintro e w' ⟨rfl,rfl⟩));have R:=rM (B:=w.heap.size+1) (k:=4+k) (x:=kw d (k*4)) oo a oo j (q.out k o);go_roundw
   case rel=>exact⟨k+1,oo,gn,R.1,R.2.1 _ _ _ oo g,R.2.2⟩
   case measure=>simp[QG];omega
  .have A:k=8:=oo
   subst A;rw[show ((8:Nat):Int)=8 from rfl];have f:=a.cell 12;rw[ui _ _ (by rw[iK];omega)]at f;have n:=a.frozen 12;have R:=rM (B:=w.heap.size+1) (k:=12) (x:=c) (W:=W) oo a oo j p.out;go_wp2;generalize wr.setCell ⟨w.heap.size+1,12,none⟩ (Qf Qa (V c))=I at R|-;obtain⟨s,t,u⟩:=R;have z:=t _ _ _ oo g;clear f n a g j t wr;go_loopw [25] (λi wr=> ∃k:Nat,k<=3/\i=Qf Qd k/\Blk wr (w.heap.size+1) (Vs (cL W (13+k))) 203/\Blk wr w.heap.size (Vs nS) 203/\QH w.heap.size w wr) (λi _=>3-(QG i).toNat)
   case atStart=>exact⟨0,oo,rfl,s,z,u⟩
   case round=>
    clear s z u;obtain⟨k,E,rfl,a,g,j⟩:=hrel;by_cases o:k<3
    .have f:=a.cell (13+k);rw[ui _ _ (by rw[iK];omega)]at f;have n:=a.frozen (13+k);have F:(k:Int)<3:=oo
     go_wp2_with (first|(go_at_call 242;go_must (refine(NM b (k*4) _ _ oo oo oo).mono ?_);rintro e w' ⟨rfl,rfl⟩));have R:=rM (B:=w.heap.size+1) (k:=13+k) (x:=kw b (k*4)) oo a oo j (r.out k o);go_roundw
     case rel=>exact⟨k+1,oo,gn,R.1,R.2.1 _ _ _ oo g,R.2.2⟩
     case measure=>simp[QG];omega
    .have D:k=3:=oo
     subst D;rw[show 13+3=16 from rfl]at a;have y:=g;have f:=a;unfold Blk at y f;have l:(Vs (cL W 16)).size=16:=by rw[Bi,iK]
     have C:(Vs nS).size=16:=by rw[Bi];rfl
     go_wp2_with (first
      |(refine ld pZ rfl rfl (w.heap.size+1) rfl f l ?_)
      |(refine wpList_store_row rfl 203 _ _ rfl w.heap.size _ rfl rfl 203 _ y (by rw[l];exact Tryz.info16V) (by rw[l,C]) (tU _) ?_))
     refine bodyPost_ret (v:=.agg (Vs (cL W 16))) ?_ rfl ⟨rfl,Qt j nR _⟩;exact rr pZ rfl rfl (g.row _) l
end Go.Proofs.YtclpbaokadfhhaaGreatDoor
