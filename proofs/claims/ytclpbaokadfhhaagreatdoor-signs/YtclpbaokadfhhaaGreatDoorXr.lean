import Derived.Test.YtclpbaokadfhhaaGreatDoorZb
set_option maxRecDepth 100000
set_option maxHeartbeats 4000000
namespace Go.Proofs.YtclpbaokadfhhaaGreatDoor
open Go.RowKit
theorem oE(x:BitVec 64)(n:Nat):x>>>n|||x<<<(64 - n)=Sha.rot x n:=BitVec.or_comm _ _
theorem cJ(x:BitVec 64)(m:Int)(w:World)(h0:0<m)(hn:m<64):
  Calls Tryz.prog 142 #[.int .u64 (U x),.int .i64 m] w fun e w'=>e= .returned (.int .u64 (U (Sha.rot x m.toNat)))∧ ∃nq,w'=w.drewN nq:=by
 obtain⟨n,rfl⟩:=Int.eq_ofNat_of_zero_le (by omega:0≤m);rw[Int.toNat_natCast];have HH:Hid (bits BinOp.or IntKind.u64 (U x/2^n) (IntKind.u64.wrap (U x*2^(64 - n)))=U (Sha.rot x n)):=by
  show _=_
  rw[dV,cP,bB,oE]
 have i1:(0:Int)≤64 - (n:Int):=by omega
 have i2: ¬(64 - (n:Int)<0):=by omega
 go_enter Tryz.func142,Tryz.ntmps142;go_wp2;go_quiet (fail)
 go_wp2;go_ret;exact⟨bZ HH.out,_,rfl⟩
theorem nj(s:ByteArray)(w:World)(hs:s.size=8):
  Calls Tryz.prog 141 #[.string s] w fun e w'=>e= .returned (.int .u64 (U (Sha.wd (fun i=>s.data.toList.getD i 0) 8)))∧w'=w:=by
 generalize hf:(fun i=>s.data.toList.getD i 0)=f;have HF:Hid _:=hf;clear hf;go_enter Tryz.func141,Tryz.ntmps141;go_wp2;go_loop [3,4] (fun x i=> ∃k:Nat,k≤8∧i= .int .i64 k∧x= .int .u64 (U (Sha.wd f k))) (fun _ i=>8 - (intOf i).toNat)
 case atStart=>exact⟨0,Nat.zero_le _,rfl,rfl⟩
 case round=>
  obtain⟨k,hk,rfl,rfl⟩:=hrel;by_cases hlt:k<8
  ·have hks:k<s.size:=by omega
   have i0:(k:Int)<8:=by omega
   have e1:s[k]=f k:=by
    rw[←show (fun i=>s.data.toList.getD i 0)=f from HF.out];have h2:k<s.data.toList.length:=by simpa using hks
    simp[List.getD,List.getElem?_eq_getElem h2];rfl
   have HW:Hid (bits BinOp.or IntKind.u64 (IntKind.u64.wrap (U (Sha.wd f k)*256)) (IntKind.u64.wrap ((f k).toNat:Int))=_):=kQ (Sha.wd f k) (f k);have E1:Hid _:=e1;clear e1;go_wp2;go_round
   case rel=>exact⟨k+1,by omega,by go_num,aP (by rw[show s[k]=f k from E1.out];exact HW.out)⟩
   case measure=>simp[intOf];omega
  ·have:k=8:=by omega
   subst this;go_wp2;go_ret;exact⟨rfl,rfl⟩
def Sha.be(x:BitVec 64):Nat→List UInt8
 |0=> []
 |k+1=>Sha.be x k++ [Sha.byteAt x k]
theorem Sha.uM(x:BitVec 64)(k:Nat):(Sha.be x k).length=k:=by
 induction k with
 |zero=>rfl
 |succ k ih=>simp[Sha.be,ih]
theorem mw(c:UInt8):(#[Value.int .u8 (c.toNat:Int)]:Array Value)=Bs [c]:=rfl
theorem kC(x:BitVec 64)(w:World):
  Rw 76 #[.int .u64 (U x)] w (.string ⟨(Sha.be x 8).toArray⟩):=by
 go_enter Tryz.func76,Tryz.ntmps76;go_wp2;go_loopw [3,4] (fun s i wr=> ∃k:Nat,k≤8∧i= .int .i64 (56 - 8*(k:Int))∧s= .string ⟨(Sha.be x k).toArray⟩∧Below w.heap.size w wr) (fun _ i _=>(intOf i+8).toNat)
 case atStart=>exact⟨0,by omega,rfl,rfl,Below.refl _ _⟩
 case round=>
  obtain⟨k,hk,rfl,rfl,BI⟩:=hrel;by_cases hlt:k<8
  ·have i0:(0:Int)≤56 - 8*(k:Int):=by omega
   have i1: ¬(56 - 8*(k:Int)<0):=by omega
   have e1:(56 - 8*(k:Int)).toNat=56 - 8*k:=by omega
   have e2:=byteAt_eq x k;have hcv:=aQ (cap:=1) (Blk.new wr (Bs [Sha.byteAt x k]) 5) 1 rfl;rw[←mw,←e2]at hcv;have hl:=Sha.uM x k;have hL:Hid (Sha.be x (k+1)=Sha.be x k++ [Sha.byteAt x k]):=rfl;generalize hbk:Sha.be x k=L at hl hL;have HBK:Hid _:=hbk;clear hbk e2;generalize Sha.byteAt x k=cb at hcv hL;go_wp2;go_roundw
   case rel=>
    refine⟨k+1,by omega,aP (by omega),?_,BI.alloc BI.size _⟩;rw[show Sha.be x (k+1)=L++ [cb]from hL.out];exact congrArg Value.string (ByteArray.mk_append_mk L [cb])
   case measure=>simp[intOf];omega
  ·have hk8:k=8:=by omega
   subst hk8;go_wp2;go_ret;exact⟨rfl,BI⟩
def Sha.rootsW:List (BitVec 64):=Sha.roots.map (BitVec.ofNat 64)
theorem Sha.zD(i:Nat)(h:i<80):(Ws Sha.rootsW)[i]? =some (.int .u64 (U (Sha.K i))):=by
 have h2:i<Sha.rootsW.length:=by unfold Sha.rootsW;rw[List.length_map];exact h
 rw[au _ _ h2];congr 3
 have h3:i<Sha.roots.length:=h;simp[Sha.rootsW,Sha.K,List.getD,List.getElem?_eq_getElem h3]
theorem nn(w:World):
  Calls Tryz.prog 77 #[] w fun e w'=>e= .returned (.slice (some ⟨w.heap.size,0,none⟩) 80 80)∧w'=w.alloc (.cells (Ws Sha.rootsW) 67):=by
 go_enter Tryz.func77,Tryz.ntmps77;go_wp2;go_ret;refine⟨rfl,?_⟩;kernel_rfl
def Sha.wZ(K:Nat→BitVec 64)(s:Sha.St)(f:Nat→UInt8):Sha.St:=s.plus (Sha.uu K (Sha.sch fun t=>Sha.wd (fun i=>f (8*t+i)) 8) s 80)
def Sha.wY(K:Nat→BitVec 64)(l:List UInt8):Nat→Sha.St
 |0=>Sha.first
 |j+1=>Sha.wZ K (Sha.wY K l j) (fun i=>l.getD (128*j+i) 0)
def Sha.digest(K:Nat→BitVec 64)(l:List UInt8):List UInt8:=Sha.tellTo (Sha.wY K (Sha.pad l) ((Sha.pad l).length/128)) 8
theorem nO(s:Sha.St):s.list.length=8:=rfl
theorem iu{w:World}{g t:Nat}{s:Sha.St}(h:Blk w g (Ws s.list) t):w.cell? ⟨g,0,none⟩=some (.int .u64 (U s.a))∧w.cell? ⟨g,1,none⟩=some (.int .u64 (U s.b))∧w.cell? ⟨g,2,none⟩=some (.int .u64 (U s.c))∧w.cell? ⟨g,3,none⟩=some (.int .u64 (U s.d))∧
  w.cell? ⟨g,4,none⟩=some (.int .u64 (U s.e))∧w.cell? ⟨g,5,none⟩=some (.int .u64 (U s.f))∧w.cell? ⟨g,6,none⟩=some (.int .u64 (U s.g))∧w.cell? ⟨g,7,none⟩=some (.int .u64 (U s.h)):=
 ⟨h.cell 0,h.cell 1,h.cell 2,h.cell 3,h.cell 4,h.cell 5,h.cell 6,h.cell 7⟩
theorem m7(K:Nat→BitVec 64)(f:Nat→UInt8)(s:Sha.St)(w:World)(hK:Tab K w):
  Calls Tryz.prog 170 #[.agg #[.int .u64 (U s.a),.int .u64 (U s.b),.int .u64 (U s.c),.int .u64 (U s.d),.int .u64 (U s.e),.int .u64 (U s.f),.int .u64 (U s.g),.int .u64 (U s.h)],.agg (Ws (Sha.rowTo (Sha.sch fun t=>Sha.wd (fun i=>f (8*t+i)) 8) 80))] w fun e w'=>
   e= .returned (.agg (Ws (Sha.wZ K s f).list))∧Below w.heap.size w w':=oA K _ s w hK
theorem gY(K:Nat→BitVec 64)(s:ByteArray)(w:World)(hs:s.size≤140737488351232)(hK:Tab K w):
  Rw 113 #[.string s] w (.string ⟨(Sha.digest K s.data.toList).toArray⟩):=by
 have hst:=ao (l:=Sha.first.list) (heap_alloc2_new w (.cells (Ws Sha.first.list) 101) (.cells #[.int .u64 0,.int .u64 0,.int .u64 0,.int .u64 0,.int .u64 0,.int .u64 0,.int .u64 0,.int .u64 0] 101)) rfl;have hsz: ∀s:Sha.St,(Ws s.list).size=8:=fun s=>by rw[av];rfl
 have hra:=World.setRow_alloc_new (w.alloc (.cells (Ws Sha.first.list) 101)) #[.int .u64 0,.int .u64 0,.int .u64 0,.int .u64 0,.int .u64 0,.int .u64 0,.int .u64 0,.int .u64 0] (Ws Sha.first.list) 101;rw[show (w.alloc (.cells (Ws Sha.first.list) 101)).heap.size=w.heap.size+1 by simp]at hra;rw[hra]at hst;clear hra;have hb1:Blk (((w.alloc (.cells (Ws Sha.first.list) 101)).alloc (.cells (Ws Sha.first.list) 101)).alloc (.cells (Bs (Sha.pad s.data.toList)) 5)) (w.heap.size+1) (Ws Sha.first.list) 101:=Blk.alloc (heap_alloc2_new w _ _) _;have hb2:Blk (((w.alloc (.cells (Ws Sha.first.list) 101)).alloc (.cells (Ws Sha.first.list) 101)).alloc (.cells (Bs (Sha.pad s.data.toList)) 5)) (w.heap.size+1+1) (Bs (Sha.pad s.data.toList)) 5:=by
  have:=Blk.new ((w.alloc (.cells (Ws Sha.first.list) 101)).alloc (.cells (Ws Sha.first.list) 101)) (Bs (Sha.pad s.data.toList)) 5;simpa using this
 have BI:Below w.heap.size w (((w.alloc (.cells (Ws Sha.first.list) 101)).alloc (.cells (Ws Sha.first.list) 101)).alloc (.cells (Bs (Sha.pad s.data.toList)) 5)):=((bR.alloc nR _).alloc (by simp) _).alloc (by simp;omega) _;have hpl:(Sha.pad s.data.toList).length=Sha.tW s.size:=by rw[Sha.xR];simp
 have hps:=Sha.uZ s.size;have HD:Hid (Sha.digest K s.data.toList=Sha.tellTo (Sha.wY K (Sha.pad s.data.toList) (Sha.tW s.size/128)) 8):=by rw[←hpl];rfl
 generalize Sha.digest K s.data.toList=D at HD⊢;go_enter Tryz.func113,Tryz.ntmps113;go_wp2_with (first|(go_at_call 168;refine(gX _).mono ?_;rintro e w' ⟨rfl,rfl⟩)|(go_at_call 169;refine(qp _ _ (by omega)).mono ?_;rintro e w' ⟨rfl,rfl⟩));clear hst;generalize ((w.alloc (.cells (Ws Sha.first.list) 101)).alloc (.cells (Ws Sha.first.list) 101)).alloc (.cells (Bs (Sha.pad s.data.toList)) 5)=w1 at hb1 hb2 BI⊢;generalize Sha.tW s.size=N at hpl hps HD⊢;generalize Sha.pad s.data.toList=P at hpl hb2 HD;obtain⟨hps1,hps2,hps3⟩:=hps;go_loopw [5] (fun i wr=> ∃j:Nat,128*j≤N∧i= .int .i64 (128*j:Nat)∧Blk wr (w.heap.size+1) (Ws (Sha.wY K P j).list) 101∧Blk wr (w.heap.size+1+1) (Bs P) 5∧Below w.heap.size w wr) (fun i _=>N - (intOf i).toNat)
 case atStart=>exact⟨0,by omega,rfl,hb1,hb2,BI⟩
 case round=>
  clear hb1 hb2 BI;obtain⟨j,hj,rfl,hb1,hb2,BI⟩:=hrel;by_cases hlt:128*j<N
  ·have hle:128*j+128≤N:=by omega
   obtain⟨f,hf⟩: ∃f:Nat→UInt8,f=fun i=>P.getD (128*j+i) 0:=⟨_,rfl⟩
   have HH:Hid (Sha.wY K P (j+1)=Sha.wZ K (Sha.wY K P j) f):=by rw[hf];rfl
   have hff:Hid (∀i,i<128→(Bs P)[128*j+i]? =some (.int .u8 ((f i).toNat:Int))):=fun i hi=>by
    rw[bU _ _ (by omega),hf]
   clear hf;generalize hst:Sha.wY K P j=st at hb1 HH;have HST:Hid _:=hst;clear hst;generalize hat:128*j=at0 at hlt hle HH hff;have HAT:Hid _:=hat;clear hat;obtain⟨c0,c1,c2,c3,c4,c5,c6,c7⟩:=iu hb1;have a0:(at0:Int)<N:=by omega
   have a1:(0:Int)≤(at0:Int):=by omega
   have a2:(at0:Int)+128≤N:=by omega
   have a3:IntKind.i64.wrap ((at0:Int)+128)=(at0:Int)+128:=by rw[IntKind.wrap_i64];omega
   go_wp2_with fail;have hKr:=hK.below BI;go_region_with (first
    |(go_at_call 171;refine(lW (w.heap.size+1+1) at0 _ f _ ?_ ?_ ?_).mono ?_;omega;omega;(intro i hi;exact(hb2.cell (at0+i)).trans (hff.out i hi));rintro e w2 ⟨rfl,hb3⟩;have hs2:Blk w2 _ _ _:=Blk.keep (w:=wr.drew) hb1 hb3;have hp2:Blk w2 _ _ _:=Blk.keep (w:=wr.drew) hb2 hb3;have hk2:Tab K w2:=Tab.below (w:=wr.drew) hKr hb3;obtain⟨d0,d1,d2,d3,d4,d5,d6,d7⟩:=iu hs2)
    |(go_at_call 170;refine(m7 K f st _ ?_).mono ?_;exact hk2;rintro e w3 ⟨rfl,hb4⟩;have hs3:Blk w3 _ _ _:=Blk.keep hs2 hb4;have hp3:Blk w3 _ _ _:=Blk.keep hp2 hb4;have hst:=ao (l:=(Sha.wZ K st f).list) hs3 rfl))
   all_goals
    go_wp2;go_roundw
    case rel=>
     refine⟨j+1,by have:=HAT.out;omega,aP (by have:=HAT.out;omega),?_,?_,?_⟩
     ·rw[show Sha.wY K P (j+1)=Sha.wZ K st f from HH.out];exact hs3.row _
     ·exact hp3.other (by omega) _
     ·refine below_setRow ?_ (by omega) _;have hq:=Below.trans (Below.drew BI) (Below.mono hb3 (by have:=BI.size;exact this));exact hq.trans (hb4.mono (by have:=hq.size;exact this))
    case measure=>simp[intOf];have:=HAT.out;omega
  ·have hjN:128*j=N:=by omega
   have hj':N/128=j:=by omega
   have g1:=hb1;unfold Blk at g1;go_wp2_with (first
    |(refine wpList_load_row rfl 101 _ rfl (w.heap.size+1) rfl 101 _ (0,0) _ g1 Tryz.underlying101 rfl (by rw[hsz];exact Tryz.info8) ?_)
    |(go_at_call 172;refine(ow _ _).mono ?_;rintro e w2 ⟨rfl,hb3⟩))
   go_ret;refine⟨?_,BI.trans (hb3.mono BI.size)⟩;rw[show D=_ from HD.out,hj'];rfl
theorem jv(f g:Nat→UInt8)(k:Nat)(h: ∀i,i<k→f i=g i):Sha.wd f k=Sha.wd g k:=by
 induction k with
 |zero=>rfl
 |succ k ih=>rw[Sha.wd,Sha.wd,ih (fun i hi=>h i (by omega)),h k (by omega)]
theorem fp(s:ByteArray)(a b i:Nat)(h:a+i<b)(_hb:b≤s.size):(s.extract a b).data.toList.getD i 0=s.data.toList.getD (a+i) 0:=by
 have h2:i<b - a:=by omega
 simp[List.getD,List.getElem?_drop,List.getElem?_take,ByteArray.data_extract];rw[if_pos (by omega)]
theorem oB(f:Nat→BitVec 64)(k:Nat)(h:16≤k):IntKind.u64.wrap (IntKind.u64.wrap (IntKind.u64.wrap (bits BinOp.xor IntKind.u64 (bits BinOp.xor IntKind.u64 (U (Sha.rot (Sha.sch f (k - 2)) 19)) (U (Sha.rot (Sha.sch f (k - 2)) 61))) (U (Sha.sch f (k - 2))/64)+
  U (Sha.sch f (k - 7)))+bits BinOp.xor IntKind.u64 (bits BinOp.xor IntKind.u64 (U (Sha.rot (Sha.sch f (k - 15)) 1)) (U (Sha.rot (Sha.sch f (k - 15)) 8))) (U (Sha.sch f (k - 15))/128))+U (Sha.sch f (k - 16)))=U (Sha.sch f k):=by
 rw[bu,bu,iB _ 64 6 (by decide),iB _ 128 7 (by decide),bu,bu,aF,aF,aF,Sha.yH f k h];rfl
theorem th(e f g:BitVec 64):bits BinOp.or IntKind.u64 (bits BinOp.and IntKind.u64 (U e) (U f)) (bits BinOp.and IntKind.u64 (bits BinOp.xor IntKind.u64 (U e) 18446744073709551615) (U g))=U (Sha.ch e f g):=by
 rw[show (18446744073709551615:Int)=U (BitVec.allOnes 64) by rw[←pM];decide,bu,bv,bv,bB,BitVec.xor_comm,pL];rfl
theorem rR(a b c:BitVec 64):bits BinOp.or IntKind.u64 (bits BinOp.or IntKind.u64 (bits BinOp.and IntKind.u64 (U a) (U b)) (bits BinOp.and IntKind.u64 (U a) (U c))) (bits BinOp.and IntKind.u64 (U b) (U c))=U (Sha.maj a b c):=by
 rw[bv,bv,bB,bv,bB];rfl
theorem kU(k x:BitVec 64)(t:Sha.St):(#[Value.int IntKind.u64 (IntKind.u64.wrap (IntKind.u64.wrap (IntKind.u64.wrap (IntKind.u64.wrap (IntKind.u64.wrap (U t.h+bits BinOp.xor IntKind.u64 (bits BinOp.xor IntKind.u64 (U (Sha.rot t.e 14)) (U (Sha.rot t.e 18))) (U (Sha.rot t.e 41)))+U (Sha.ch t.e t.f t.g))+U k)+U x)+
   IntKind.u64.wrap (bits BinOp.xor IntKind.u64 (bits BinOp.xor IntKind.u64 (U (Sha.rot t.a 28)) (U (Sha.rot t.a 34))) (U (Sha.rot t.a 39))+U (Sha.maj t.a t.b t.c)))),
  Value.int IntKind.u64 (U t.a),Value.int IntKind.u64 (U t.b),Value.int IntKind.u64 (U t.c),
  Value.int IntKind.u64 (IntKind.u64.wrap (U t.d+IntKind.u64.wrap (IntKind.u64.wrap (IntKind.u64.wrap (IntKind.u64.wrap (U t.h+bits BinOp.xor IntKind.u64 (bits BinOp.xor IntKind.u64 (U (Sha.rot t.e 14)) (U (Sha.rot t.e 18))) (U (Sha.rot t.e 41)))+U (Sha.ch t.e t.f t.g))+U k)+U x))),
  Value.int IntKind.u64 (U t.e),Value.int IntKind.u64 (U t.f),Value.int IntKind.u64 (U t.g)]:Array Value)=Ws (Sha.rnd k x t).list:=by
 rw[bu,bu,bu,bu,aF,aF,aF,aF,aF,aF,aF];rfl
theorem nu(s8:Sha.St)(s:ByteArray)(kb:Nat)(w:World)(hs:s.size=128)(hk: ∀i,i<80→w.cell? ⟨kb,i,none⟩=some (.int .u64 (U (Sha.K i)))):
  Calls Tryz.prog 78 #[.agg (Ws s8.list),.string s,.slice (some ⟨kb,0,none⟩) 80 80] w fun e w'=>
   e= .returned (.agg (Ws (Sha.wZ Sha.K s8 (fun i=>s.data.toList.getD i 0)).list))∧Below w.heap.size w w':=by
 have hkb:kb<w.heap.size:=block_lt_of_cell (hk 0 (by omega));have HK:Hid (∀i,i<80→w.cell? ⟨kb,i,none⟩=some (.int .u64 (U (Sha.K i)))):=hk;clear hk;generalize hW:(Sha.sch fun t=>Sha.wd (fun i=>s.data.toList.getD (8*t+i) 0) 8)=W;have HW:Hid _:=hW;have HR:Hid (Sha.wZ Sha.K s8 (fun i=>s.data.toList.getD i 0)=s8.plus (Sha.uu Sha.K W s8 80)):=by rw[←hW];rfl
 clear hW;generalize Sha.wZ Sha.K s8 (fun i=>s.data.toList.getD i 0)=R at HR⊢;generalize hT:Sha.uu Sha.K W s8 80=T at HR;have HT:Hid _:=hT;clear hT;have hws:(Ws s8.list).size=8:=by rw[av];rfl
 have hz:=mU;have hb1:=Blk.alloc (Blk.alloc (Blk.new w (Ws s8.list) 101) (.cells (Ws [0,0,0,0,0,0,0,0]) 101)) (.cells (Ws Sha.vP) 146);have hb2:=Blk.alloc (Blk.new (w.alloc (.cells (Ws s8.list) 101)) (Ws [0,0,0,0,0,0,0,0]) 101) (.cells (Ws Sha.vP) 146);have hb3:=Blk.new ((w.alloc (.cells (Ws s8.list) 101)).alloc (.cells (Ws [0,0,0,0,0,0,0,0]) 101)) (Ws Sha.vP) 146;have BI:Below w.heap.size w (((w.alloc (.cells (Ws s8.list) 101)).alloc (.cells (Ws [0,0,0,0,0,0,0,0]) 101)).alloc (.cells (Ws Sha.vP) 146)):=
  ((bR.alloc nR _).alloc (by simp) _).alloc (by simp;omega) _
 rw[show (w.alloc (.cells (Ws s8.list) 101)).heap.size=w.heap.size+1 by simp]at hb2;rw[show ((w.alloc (.cells (Ws s8.list) 101)).alloc (.cells (Ws [0,0,0,0,0,0,0,0]) 101)).heap.size=w.heap.size+1+1 by simp]at hb3;go_enter Tryz.func78,Tryz.ntmps78;go_wp2_with fail;rw[show (#[Value.int IntKind.u64 0,Value.int IntKind.u64 0,Value.int IntKind.u64 0,Value.int IntKind.u64 0,
   Value.int IntKind.u64 0,Value.int IntKind.u64 0,Value.int IntKind.u64 0,Value.int IntKind.u64 0]:Array Value)=Ws [0,0,0,0,0,0,0,0]from rfl]
 generalize ((w.alloc (.cells (Ws s8.list) 101)).alloc (.cells (Ws [0,0,0,0,0,0,0,0]) 101)).alloc (.cells (Ws Sha.vP) 146)=w1 at hb1 hb2 hb3 BI⊢;go_loopw [8] (fun i wr=> ∃k:Nat,k≤80∧i= .int .i64 k∧Blk wr (w.heap.size+1+1) (Ws (Sha.rowTo W k)) 146∧Blk wr w.heap.size (Ws s8.list) 101∧Blk wr (w.heap.size+1) (Ws [0,0,0,0,0,0,0,0]) 101∧Below w.heap.size w wr) (fun i _=>80 - (intOf i).toNat)
 case atStart=>exact⟨0,by omega,rfl,by rw[Sha.xP];exact hb3,hb1,hb2,BI⟩
 case round=>
  clear hb1 hb2 hb3 BI;obtain⟨k,hk,rfl,hb3,hb1,hb2,BI⟩:=hrel;by_cases hlt:k<80
  ·have i0:(k:Int)<80:=by omega
   have g1:=hb3.cell k;rw[au _ _ (by rw[Sha.rowTo_length];omega)]at g1;have g2:=hb3.frozen k;by_cases h16:k<16
   ·have i16:(k:Int)<16:=by omega
    have hex:(s.extract (8*k) (8*k+8)).size=8:=by simp;omega
    have HV:Hid (Sha.wd (fun i=>(s.extract (8*k) (8*k+8)).data.toList.getD i 0) 8=W k):=by
     show _=_
     rw[←show (Sha.sch fun t=>Sha.wd (fun i=>s.data.toList.getD (8*t+i) 0) 8)=W from HW.out,Sha.yG _ _ h16];exact jv _ _ _ (fun i hi=>fp s _ _ i (by omega) (by omega))
    go_wp2_with fail;refine(nj _ _ hex).mono ?_;rintro e w' ⟨rfl,rfl⟩;rw[show Sha.wd (fun i=>(s.extract (8*k) (8*k+8)).data.toList.getD i 0) 8=W k from HV.out];go_wp2;have R:=da (w:=w) (B:=w.heap.size+1+1) (k:=k) (x:=U (W k)) (by omega) hb3 (by omega) BI rfl;go_roundw
    case rel=>exact⟨k+1,by omega,by go_num,R.1,R.2.1 _ _ _ (by omega) hb1,R.2.1 _ _ _ (by omega) hb2,R.2.2⟩
    case measure=>simp[intOf];omega
   ·have i16: ¬(k:Int)<16:=by omega
    have c2:=hb3.cell (k - 2);rw[au _ _ (by rw[Sha.rowTo_length];omega),Sha.ux _ _ _ (by omega) hk]at c2;have c7:=hb3.cell (k - 7);rw[au _ _ (by rw[Sha.rowTo_length];omega),Sha.ux _ _ _ (by omega) hk]at c7;have c15:=hb3.cell (k - 15);rw[au _ _ (by rw[Sha.rowTo_length];omega),Sha.ux _ _ _ (by omega) hk]at c15;have c16:=hb3.cell (k - 16);rw[au _ _ (by rw[Sha.rowTo_length];omega),Sha.ux _ _ _ (by omega) hk]at c16;have i2c:((k:Int) - 2).toNat=k - 2:=by omega
    have i7c:((k:Int) - 7).toNat=k - 7:=by omega
    have i15c:((k:Int) - 15).toNat=k - 15:=by omega
    have i16c:((k:Int) - 16).toNat=k - 16:=by omega
    have j2:IntKind.i64.wrap ((k:Int) - 2)=(k:Int) - 2:=by rw[IntKind.wrap_i64];omega
    have j7:IntKind.i64.wrap ((k:Int) - 7)=(k:Int) - 7:=by rw[IntKind.wrap_i64];omega
    have j15:IntKind.i64.wrap ((k:Int) - 15)=(k:Int) - 15:=by rw[IntKind.wrap_i64];omega
    have j16:IntKind.i64.wrap ((k:Int) - 16)=(k:Int) - 16:=by rw[IntKind.wrap_i64];omega
    have l2:(2:Int)≤(k:Int)∧(k:Int) - 2<80:=by omega
    have l7:(7:Int)≤(k:Int)∧(k:Int) - 7<80:=by omega
    have l15:(15:Int)≤(k:Int)∧(k:Int) - 15<80:=by omega
    have l16:(16:Int)≤(k:Int)∧(k:Int) - 16<80:=by omega
    obtain⟨l2a,l2b⟩:=l2;obtain⟨l7a,l7b⟩:=l7;obtain⟨l15a,l15b⟩:=l15;obtain⟨l16a,l16b⟩:=l16;have q7: ∀(wx:World) (v:Value),(wx.setCell ⟨w.heap.size+1+1,k,none⟩ v).cell? ⟨w.heap.size+1+1,k - 7,none⟩=wx.cell? ⟨w.heap.size+1+1,k - 7,none⟩:=fun wx v=>bc _ _ _ _ _ (by omega)
    have q16: ∀(wx:World) (v:Value),(wx.setCell ⟨w.heap.size+1+1,k,none⟩ v).cell? ⟨w.heap.size+1+1,k - 16,none⟩=wx.cell? ⟨w.heap.size+1+1,k - 16,none⟩:=fun wx v=>bc _ _ _ _ _ (by omega)
    go_wp2_with (go_at_call 142;refine(cJ _ _ _ (by decide) (by decide)).mono ?_;rintro e w' ⟨rfl,nq,rfl⟩);go_region_held3 (fun w'=>w'.cell? ⟨w.heap.size+1+1,k - 7,none⟩=some (.int .u64 (U (W (k - 7))))∧w'.cell? ⟨w.heap.size+1+1,k - 16,none⟩=some (.int .u64 (U (W (k - 16))))) (go_keep) (fail)
    go_wp2;have hx:=oB (fun t=>Sha.wd (fun i=>s.data.toList.getD (8*t+i) 0) 8) k (by omega);rw[show (Sha.sch fun t=>Sha.wd (fun i=>s.data.toList.getD (8*t+i) 0) 8)=W from HW.out]at hx;have R:=fun n=>da (w:=w) (wr:=wr.drewN n) (B:=w.heap.size+1+1) (k:=k) (W:=W) (by omega) (hb3.drewN n) (by omega) (below_drewN BI n) hx
    clear hx;go_roundw
    case rel=>exact⟨k+1,by omega,by go_num,(R _).1,(R _).2.1 _ _ _ (by omega) (hb1.drewN _),(R _).2.1 _ _ _ (by omega) (hb2.drewN _),(R _).2.2⟩
    case measure=>simp[intOf];omega
  ·have hk80:k=80:=by omega
   subst hk80;rw[show ((80:Nat):Int)=80 from rfl];have g1:=hb1;unfold Blk at g1;have hsz: ∀s:Sha.St,(Ws s.list).size=8:=fun s=>by rw[av];rfl
   have hst:=ao (l:=s8.list) (Blk.new wr #[.int .u64 0,.int .u64 0,.int .u64 0,.int .u64 0,.int .u64 0,.int .u64 0,.int .u64 0,.int .u64 0] 101) rfl;rw[World.setRow_alloc_new]at hst;have hbV:=Blk.new wr (Ws s8.list) 101;have hc3:=hb3.alloc (.cells (Ws s8.list) 101);have hc1:=hb1.alloc (.cells (Ws s8.list) 101);have hc2:=hb2.alloc (.cells (Ws s8.list) 101);have BQ:Below w.heap.size w (wr.alloc (.cells (Ws s8.list) 101)):=BI.alloc BI.size _;have hV:=hb3.lt;clear hb1 hb2 hb3;go_wp2_with (refine wpList_load_row rfl 101 _ rfl w.heap.size rfl 101 _ (0,0) _ g1 Tryz.underlying101 rfl (by rw[hsz];exact Tryz.info8) ?_);generalize wr.alloc (.cells (Ws s8.list) 101)=w2 at hbV hc1 hc2 hc3 BQ⊢;generalize wr.heap.size=V0 at hbV hV⊢;clear hst g1 BI;go_loopw [14] (fun i wr=> ∃k:Nat,k≤80∧i= .int .i64 k∧Blk wr V0 (Ws (Sha.uu Sha.K W s8 k).list) 101∧Blk wr (w.heap.size+1+1) (Ws (Sha.rowTo W 80)) 146∧Blk wr w.heap.size (Ws s8.list) 101∧Blk wr (w.heap.size+1) (Ws [0,0,0,0,0,0,0,0]) 101∧Below w.heap.size w wr) (fun i _=>80 - (intOf i).toNat)
   case atStart=>exact⟨0,by omega,rfl,hbV,hc3,hc1,hc2,BQ⟩
   case round=>
    clear hbV hc1 hc2 hc3 BQ;obtain⟨k,hk,rfl,hbV,hb3,hb1,hb2,BI⟩:=hrel;by_cases hlt:k<80
    ·have i0:(k:Int)<80:=by omega
     have hkc:wr.cell? ⟨kb,k,none⟩=some (.int .u64 (U (Sha.K k))):=by rw[BI.cell (p:=⟨kb,k,none⟩) hkb];exact HK.out k hlt
     have hwc:=hb3.cell k;rw[au _ _ (by rw[Sha.rowTo_length];omega),Sha.ux _ _ _ (by omega) (by omega)]at hwc;have HS:Hid (Sha.uu Sha.K W s8 (k+1)=Sha.rnd (Sha.K k) (W k) (Sha.uu Sha.K W s8 k)):=rfl;generalize Sha.uu Sha.K W s8 k=t8 at hbV HS;obtain⟨c0,c1,c2,c3,c4,c5,c6,c7⟩:=iu hbV;have gV:=hbV;unfold Blk at gV;go_wp2_with fail;rw[th t8.e t8.f t8.g,rR t8.a t8.b t8.c];go_quiet ((go_at_call 142;exact Calls.quiet_of (cJ _ _ _ (by decide) (by decide))))
     go_wp2_with fail;refine(cJ _ _ _ (by decide) (by decide)).mono ?_;rintro e w' ⟨rfl,nq,rfl⟩;go_wp2_with fail;refine(cJ _ _ _ (by decide) (by decide)).mono ?_;rintro e w' ⟨rfl,nq,rfl⟩;go_wp2_with fail;refine(cJ _ _ _ (by decide) (by decide)).mono ?_;rintro e w' ⟨rfl,nq,rfl⟩;go_wp2_with (refine wpList_store_row rfl 101 _ _ rfl V0 _ rfl rfl 101 _ gV ?h1 ?h2 ?h3 ?_);case h1=>exact Tryz.info8
     case h2=>rw[av];rfl
     case h3=>rw[kU];exact ar _
     rw[kU];go_roundw
     case rel=>
      refine⟨k+1,by omega,by go_num,?_,(hb3.drewN _).other (by omega) _,(hb1.drewN _).other (by omega) _,(hb2.drewN _).other (by omega) _,below_setRow (below_drewN BI _) (by omega) _⟩;rw[show Sha.uu Sha.K W s8 (k+1)=Sha.rnd (Sha.K k) (W k) t8 from HS.out];exact(hbV.drewN _).row _
     case measure=>simp[intOf];omega
    ·have hk80:k=80:=by omega
     subst hk80;rw[show ((80:Nat):Int)=80 from rfl];rw[show Sha.uu Sha.K W s8 80=T from HT.out]at hbV;clear hb3;go_wp2;go_loopw [21] (fun i wr=> ∃k:Nat,k≤8∧i= .int .i64 k∧Blk wr w.heap.size (Ws (Sha.vL s8 T k)) 101∧Blk wr V0 (Ws T.list) 101∧Blk wr (w.heap.size+1) (Ws [0,0,0,0,0,0,0,0]) 101∧Below w.heap.size w wr) (fun i _=>8 - (intOf i).toNat)
     case atStart=>exact⟨0,by omega,rfl,hb1,hbV,hb2,BI⟩
     case round=>
      clear hb1 hb2 hbV BI;obtain⟨k,hk,rfl,hb1,hbV,hb2,BI⟩:=hrel;by_cases hlt:k<8
      ·have hg:=Sha.yU s8 T k hlt;have hc:=hb1.cell k;rw[au _ _ hg.2,hg.1]at hc;have hv:=hbV.cell k;rw[au _ _ (by rw[nO];exact hlt)]at hv;have hf:=hb1.frozen k;clear hg;have Ca:=Sha.yA s8 T k hlt;generalize s8.list.getD k 0=x1 at hc Ca;generalize T.list.getD k 0=x2 at hv Ca;have HS:Hid _:=Ca;clear Ca;have i0:(k:Int)<8:=by omega
       go_wp2_with fail;go_region
       all_goals
        go_wp2;go_roundw
        case rel=>
         refine⟨k+1,by omega,by go_num,?_,?_,?_,(BI.setCell nR _).drew⟩
         ·rw[hb1.set,aF,aC,show _=_ from HS.out];exact hb1.row _
         ·rw[hb1.set];exact hbV.other (by omega) _
         ·rw[hb1.set];exact hb2.other (by omega) _
        case measure=>simp[intOf];omega
      ·have hk8:k=8:=by omega
       subst hk8;have g0:=hb1;have g1:=hb2;unfold Blk at g0 g1;have e8:(Ws (Sha.vL s8 T 8)).size=8:=by rw[av];rfl
       go_wp2_with (first
        |(refine ld gl rfl rfl w.heap.size rfl g0 e8 ?_)
        |(refine st gl rfl rfl (w.heap.size+1) rfl rfl g1 e8 rfl (ar _) ?_))
       refine bodyPost_ret (v:= .agg (Ws (Sha.vL s8 T 8))) ?_ rfl ⟨by rw[show R=_ from HR.out];rfl,below_setRow BI (by omega) _⟩;exact rr gl rfl rfl (hb2.row _) e8
end Go.Proofs.YtclpbaokadfhhaaGreatDoor
