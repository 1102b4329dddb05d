import Derived.Test.YtclpbaokadfhhaaGreatDoorRl1
import Derived.Test.YtclpbaokadfhhaaGreatDoorXg
namespace Go.Proofs.YtclpbaokadfhhaaGreatDoor
namespace Rl
def st(l:Ld):Wk.St:=⟨Fd.fr l.a,Fd.fr l.b,Fd.fr l.c,Fd.fr l.d⟩
theorem N_fr:Fd.fr (Rp.xM 56129 1)=Gf.ofN 121665:=by
 unfold Fd.fr;rw[Rp.num2_vl,show (56129+65536*1:Int)=((121665:Nat):Int) by decide];exact Fd.zA 121665
theorem stepped_st{u:List Int}{l:Ld}(hl:Fine l):st (zv u l)=(st l).step (Fd.fr u):=by
 obtain⟨la,lb,lc,ld⟩:=l;obtain⟨ha,hb,hc,hd⟩:=hl;dsimp only at ha hb hc hd;have e:=Fd.tS _ _ ha hb;have f:=Fd.tO _ _ ha hb;have g:=Fd.tS _ _ hc hd;have h:=Fd.tO _ _ hc hd;have he:=Fd.tN _ _ h e;have ee:=Fd.tN _ _ e e;rw[Bg];unfold st Wk.St.step Wk.fA Wk.fB Wk.fC Wk.fD;dsimp only;simp only[Fd.uG,Fd.u9 _ _ ha.1,Fd.uJ _ _ ha.1,Fd.u9 _ _ hc.1,Fd.uJ _ _ hc.1,Fd.u9 _ _ he.1,Fd.uJ _ _ he.1,Fd.u9 _ _ ee.1,Fd.uJ _ _ ee.1,N_fr]
def bitsTo(f:Nat→Bool):Nat→List Bool
 |0=> []
 |k+1=>bitsTo f k++ [f (255 - 1 - k)]
theorem first_st(u:List Int):st ⟨Fd.small 1,Fd.small 0,u,Fd.small 1⟩=Wk.first (Fd.fr u):=by
 unfold st;dsimp only;rw[show Fd.fr (Fd.small 1)=Gf.ofN 1 from Fd.wk 1,show Fd.fr (Fd.small 0)=Gf.ofN 0 from Fd.wk 0];rfl
theorem swap_st(l:Ld):st (swap l)=(st l).swap true:=rfl
theorem rung_st{t:Bool}{u:List Int}{l:Ld}(hl:Fine l):st (rung t u l)=(st l).by (Fd.fr u) t:=by
 unfold rung Wk.St.by
 cases t with
 |true=>
  rw[if_pos rfl,swap_st,stepped_st (swap_fine hl),swap_st]
 |false=>
  rw[if_neg (by decide),stepped_st hl];rfl
theorem ladTo_st(f:Nat→Bool){u:List Int}(hu:Fd.Good u): ∀k,st (uQ f u k)=Wk.run (Fd.fr u) (Wk.first (Fd.fr u)) (bitsTo f k)
 |0=>first_st u
 |k+1=>by
  rw[uQ,rung_st (zl f hu k),ladTo_st f hu k,bitsTo,Wk.run_append];rfl
theorem u8_low: ∀x:UInt8,x - x%8=x&&&248:=by
 have h: ∀n:Fin 256,UInt8.ofNat n.val - UInt8.ofNat n.val%8=UInt8.ofNat n.val&&&248:=by decide+kernel
 intro x;have:=h ⟨x.toNat,x.toNat_lt⟩;simpa using this
theorem u8_high: ∀x:UInt8,x%64+64=(x&&&63)|||64:=by
 have h: ∀n:Fin 256,UInt8.ofNat n.val%64+64=(UInt8.ofNat n.val&&&63)|||64:=by decide+kernel
 intro x;have:=h ⟨x.toNat,x.toNat_lt⟩;simpa using this
theorem Af(l:List UInt8):Rp.xh l=aE l:=by
 unfold Rp.xh aE;rw[u8_low,u8_high]
theorem bit_key(s:ByteArray)(i:Nat):bitf (key s) i=fh (aE s.data.toList) i:=by
 unfold bitf fh byt;rw[show (key s).data.toList=aE s.data.toList from Af _];generalize ((aE s.data.toList).getD (i/8) 0).toNat=x;generalize i%8=r;have h:(x:Int)/2^r%2=((x/2^r%2:Nat):Int):=by simp
 rw[h,Bool.eq_iff_iff,beq_iff_eq,beq_iff_eq];omega
theorem bits_key(s:ByteArray): ∀k,bitsTo (bitf (key s)) k=eq (aE s.data.toList) k
 |0=>rfl
 |k+1=>by rw[bitsTo,eq,bits_key s k,bit_key,show 255 - 1 - k=254 - k by omega]
end Rl
namespace Ff
theorem or_add(a:BitVec 64)(x:UInt8)(k:Nat)(hk:k≤56)(ha:a.toNat<2^k):(a|||bw x<<<k).toNat=a.toNat+2^k*x.toNat:=by
 have hx:=x.toNat_lt;have h1:2^k≤2^56:=Nat.pow_le_pow_right (by omega) hk;have h2:x.toNat*2^k<2^64:=by
  have:x.toNat*2^k≤255*2^56:=Nat.mul_le_mul (by omega) h1;omega
 rw[BitVec.toNat_or,BitVec.toNat_shiftLeft];unfold bw;rw[BitVec.toNat_ofNat,Nat.mod_eq_of_lt (by omega:x.toNat<2^64),Nat.shiftLeft_eq,Nat.mod_eq_of_lt h2,Nat.or_comm,Nat.mul_comm,←Nat.two_pow_add_eq_or_of_lt ha,Nat.add_comm]
theorem word_nat(f:Nat→UInt8)(j:Nat):(word f j).toNat=(f j).toNat+256*(f (j+1)).toNat+65536*(f (j+2)).toNat+16777216*(f (j+3)).toNat+4294967296*(f (j+4)).toNat+1099511627776*(f (j+5)).toNat+281474976710656*(f (j+6)).toNat+72057594037927936*(f (j+7)).toNat:=by
 have x0:=(f j).toNat_lt;have x1:=(f (j+1)).toNat_lt;have x2:=(f (j+2)).toNat_lt;have x3:=(f (j+3)).toNat_lt;have x4:=(f (j+4)).toNat_lt;have x5:=(f (j+5)).toNat_lt;have x6:=(f (j+6)).toNat_lt;have x7:=(f (j+7)).toNat_lt;have e0:=or_add 0 (f j) 0 (by omega) (by decide);have z:(0:BitVec 64).toNat=0:=rfl;have e1:=or_add _ (f (j+1)) 8 (by omega) (by rw[e0];omega);have e2:=or_add _ (f (j+2)) 16 (by omega) (by rw[e1,e0];omega);have e3:=or_add _ (f (j+3)) 24 (by omega) (by rw[e2,e1,e0];omega);have e4:=or_add _ (f (j+4)) 32 (by omega) (by rw[e3,e2,e1,e0];omega);have e5:=or_add _ (f (j+5)) 40 (by omega) (by rw[e4,e3,e2,e1,e0];omega);have e6:=or_add _ (f (j+6)) 48 (by omega) (by rw[e5,e4,e3,e2,e1,e0];omega);have e7:=or_add _ (f (j+7)) 56 (by omega) (by rw[e6,e5,e4,e3,e2,e1,e0];omega);unfold word;rw[e7,e6,e5,e4,e3,e2,e1,e0];omega
def sum4(a b c d:Nat):Nat:=a+18446744073709551616*b+340282366920938463463374607431768211456*c+6277101735386680763835789423207666416102355444464034512896*d
theorem eight(l:List UInt8)(n:Nat)(h:l.length=n+8): ∃a b c d e f g i:UInt8,∃r:List UInt8,l=a::b::c::d::e::f::g::i::r∧r.length=n:=by
 match l,h with
 |a::b::c::d::e::f::g::i::r,h=>exact⟨a,b,c,d,e,f,g,i,r,rfl,by simpa using h⟩
theorem all32(l:List UInt8)(h:l.length=32): ∃b0 b1 b2 b3 b4 b5 b6 b7 b8 b9 b10 b11 b12 b13 b14 b15 b16 b17 b18 b19 b20 b21 b22 b23 b24 b25 b26 b27 b28 b29 b30 b31:UInt8,l= [b0,b1,b2,b3,b4,b5,b6,b7,b8,b9,b10,b11,b12,b13,b14,b15,b16,b17,b18,b19,b20,b21,b22,b23,b24,b25,b26,b27,b28,b29,b30,b31]:=by
 obtain⟨b0,b1,b2,b3,b4,b5,b6,b7,r0,rfl,h0⟩:=eight l 24 h;obtain⟨b8,b9,b10,b11,b12,b13,b14,b15,r1,rfl,h1⟩:=eight r0 16 h0;obtain⟨b16,b17,b18,b19,b20,b21,b22,b23,r2,rfl,h2⟩:=eight r1 8 h1;obtain⟨b24,b25,b26,b27,b28,b29,b30,b31,r3,rfl,h3⟩:=eight r2 0 h2;obtain rfl:=List.eq_nil_of_length_eq_zero h3;exact⟨b0,b1,b2,b3,b4,b5,b6,b7,b8,b9,b10,b11,b12,b13,b14,b15,b16,b17,b18,b19,b20,b21,b22,b23,b24,b25,b26,b27,b28,b29,b30,b31,rfl⟩
theorem num_words(l:List UInt8)(h:l.length=32):Sc.num l=sum4 (word (fun i=>l.getD i 0) 0).toNat (word (fun i=>l.getD i 0) 8).toNat (word (fun i=>l.getD i 0) 16).toNat (word (fun i=>l.getD i 0) 24).toNat:=by
 rw[word_nat,word_nat,word_nat,word_nat];obtain⟨b0,b1,b2,b3,b4,b5,b6,b7,b8,b9,b10,b11,b12,b13,b14,b15,b16,b17,b18,b19,b20,b21,b22,b23,b24,b25,b26,b27,b28,b29,b30,b31,rfl⟩:=all32 l h;have e: [b0,b1,b2,b3,b4,b5,b6,b7,b8,b9,b10,b11,b12,b13,b14,b15,b16,b17,b18,b19,b20,b21,b22,b23,b24,b25,b26,b27,b28,b29,b30,b31]= [b0,b1,b2,b3,b4,b5,b6,b7]++([b8,b9,b10,b11,b12,b13,b14,b15]++([b16,b17,b18,b19,b20,b21,b22,b23]++ [b24,b25,b26,b27,b28,b29,b30,b31])):=rfl;have h8: ∀a b c d e f g i:UInt8,Sc.num [a,b,c,d,e,f,g,i]=a.toNat+256*b.toNat+65536*c.toNat+16777216*d.toNat+4294967296*e.toNat+1099511627776*f.toNat+281474976710656*g.toNat+72057594037927936*i.toNat:=fun a b c d e f g i=>by
  simp only[Sc.num];omega
 rw[show Sc.num [b0,b1,b2,b3,b4,b5,b6,b7,b8,b9,b10,b11,b12,b13,b14,b15,b16,b17,b18,b19,b20,b21,b22,b23,b24,b25,b26,b27,b28,b29,b30,b31]=Sc.num ([b0,b1,b2,b3,b4,b5,b6,b7]++([b8,b9,b10,b11,b12,b13,b14,b15]++([b16,b17,b18,b19,b20,b21,b22,b23]++ [b24,b25,b26,b27,b28,b29,b30,b31])))from congrArg Sc.num e,Fd.u6,Fd.u6,Fd.u6,h8,h8,h8,h8];simp only[List.getD_cons_zero,List.getD_cons_succ,Nat.reduceAdd,Nat.zero_add,List.length_cons,List.length_nil,Nat.reducePow];unfold sum4;omega
theorem low51(x:W):(x&&&M51).toNat=x.toNat%2251799813685248:=by
 rw[BitVec.toNat_and,show M51.toNat=2^51 - 1 from rfl,Nat.and_two_pow_sub_one_eq_mod]
theorem part13(x y:W):((x>>>51|||y<<<13)&&&M51).toNat=(x.toNat/2251799813685248+8192*y.toNat)%2251799813685248:=by
 have hx:=x.isLt;have hy:=y.isLt;rw[low51,BitVec.toNat_or,BitVec.toNat_ushiftRight,BitVec.toNat_shiftLeft,Nat.shiftRight_eq_div_pow,Nat.shiftLeft_eq];rw[show y.toNat*2^13%2^64=2^13*(y.toNat%2^51) by omega,Nat.or_comm,←Nat.two_pow_add_eq_or_of_lt (i:=13) (by omega)];omega
theorem part26(x y:W):((x>>>38|||y<<<26)&&&M51).toNat=(x.toNat/274877906944+67108864*y.toNat)%2251799813685248:=by
 have hx:=x.isLt;have hy:=y.isLt;rw[low51,BitVec.toNat_or,BitVec.toNat_ushiftRight,BitVec.toNat_shiftLeft,Nat.shiftRight_eq_div_pow,Nat.shiftLeft_eq];rw[show y.toNat*2^26%2^64=2^26*(y.toNat%2^38) by omega,Nat.or_comm,←Nat.two_pow_add_eq_or_of_lt (i:=26) (by omega)];omega
theorem part39(x y:W):((x>>>25|||y<<<39)&&&M51).toNat=(x.toNat/33554432+549755813888*y.toNat)%2251799813685248:=by
 have hx:=x.isLt;have hy:=y.isLt;rw[low51,BitVec.toNat_or,BitVec.toNat_ushiftRight,BitVec.toNat_shiftLeft,Nat.shiftRight_eq_div_pow,Nat.shiftLeft_eq];rw[show y.toNat*2^39%2^64=2^39*(y.toNat%2^25) by omega,Nat.or_comm,←Nat.two_pow_add_eq_or_of_lt (i:=39) (by omega)];omega
theorem top12(x:W):((x>>>12)&&&M51).toNat=x.toNat/4096%2251799813685248:=by
 rw[low51,BitVec.toNat_ushiftRight,Nat.shiftRight_eq_div_pow]
theorem five_sum(a b c d:Nat)(ha:a<18446744073709551616)(hb:b<18446744073709551616)(hc:c<18446744073709551616)(_hd:d<18446744073709551616):
  a%2251799813685248+2251799813685248*((a/2251799813685248+8192*b)%2251799813685248)+5070602400912917605986812821504*((b/274877906944+67108864*c)%2251799813685248)+11417981541647679048466287755595961091061972992*((c/33554432+549755813888*d)%2251799813685248)+25711008708143844408671393477458601640355247900524685364822016*(d/4096%2251799813685248)
   =sum4 a b c d%57896044618658097711785492504343953926634992332820282019728792003956564819968:=by
 unfold sum4;omega
theorem of_val(l:List UInt8)(h:l.length=32):val (of l)=Sc.num l%57896044618658097711785492504343953926634992332820282019728792003956564819968:=by
 rw[num_words l h];unfold of;rw[wordsTo_eq];generalize word (fun i=>l.getD i 0) 0=w0;generalize word (fun i=>l.getD i 0) 8=w1;generalize word (fun i=>l.getD i 0) 16=w2;generalize word (fun i=>l.getD i 0) 24=w3;rw[←five_sum w0.toNat w1.toNat w2.toNat w3.toNat w0.isLt w1.isLt w2.isLt w3.isLt];unfold val five4;simp only[List.getD_cons_zero,List.getD_cons_succ];rw[low51,part13,part26,part39,top12]
theorem bytes_num{a:List W}(ha:Small a):Sc.num (bytes a)=Gf.toN (fe a):=by
 have hl:=(lowest_val a (ha.mono (by omega))).1;have hf:=lowest_fe ha;have hv:=of_val (bytes a) (bytes_length a);have hn:=num_words (bytes a) (bytes_length a);have hw:=wordsTo_eq (fun i=>(bytes a).getD i 0);unfold of at hv;unfold bytes at hv hn hw⊢;generalize lowest a=b at hl hf hv hn hw⊢;rw[words_back (Bo b) rfl]at hv hw;obtain⟨x0,x1,x2,x3,x4,rfl⟩:=uz b hl.1;have p0:=hl.2 0 (by omega);have p1:=hl.2 1 (by omega);have p2:=hl.2 2 (by omega);have p3:=hl.2 3 (by omega);have p4:=hl.2 4 (by omega);simp only[List.getD_cons_zero,List.getD_cons_succ]at p0 p1 p2 p3 p4;rw[five_back p0 p1 p2 p3 p4,hf]at hv;have h3:word (fun i=>(tY (Bo [x0,x1,x2,x3,x4]) 32).getD i 0) 24=(x3>>>39)|||(x4<<<12):=by
  have:=congrArg (fun l=>l.getD 3 0) hw;exact this.symm
 have hlt:((x3>>>39)|||(x4<<<12)).toNat<9223372036854775808:=by
  rw[BitVec.toNat_or,BitVec.toNat_ushiftRight,BitVec.toNat_shiftLeft,Nat.shiftRight_eq_div_pow,Nat.shiftLeft_eq,
   show x4.toNat*2^12%2^64=2^12*x4.toNat by omega,Nat.or_comm,←Nat.two_pow_add_eq_or_of_lt (i:=12) (by omega)]
  omega
 rw[h3]at hn;rw[hv];symm
 apply Nat.mod_eq_of_lt
 rw[hn];unfold sum4;have q0:=(word (fun i=>(tY (Bo [x0,x1,x2,x3,x4]) 32).getD i 0) 0).isLt;have q1:=(word (fun i=>(tY (Bo [x0,x1,x2,x3,x4]) 32).getD i 0) 8).isLt;have q2:=(word (fun i=>(tY (Bo [x0,x1,x2,x3,x4]) 32).getD i 0) 16).isLt;omega
end Ff
namespace Fd
theorem numTo_get(s:ByteArray): ∀k i,k≤16→i<k→(yg s k).getD i 0=byt s (2*i)+256*byt s (2*i+1)
 |0,i,_,hi=>by omega
 |k+1,i,hk,hi=>by
  rw[yg];by_cases e:k=i
  ·subst e;rw[aw _ _ _ (by rw[yL];omega)]
  ·rw[getD_set_ne _ _ _ _ e,numTo_get s k i (by omega) (by omega)]
theorem num_vl(s:ByteArray)(h:s.size=32):vl (num s)=((Sc.num s.data.toList%57896044618658097711785492504343953926634992332820282019728792003956564819968:Nat):Int):=by
 have hl:s.data.toList.length=32:=by simpa using h
 have hb: ∀i,byt s i=((s.data.toList.getD i 0).toNat:Int):=fun _=>rfl
 have e:vl (num s)=sm (fun i=>if i=15 then(byt s 30+256*byt s 31)%32768 else byt s (2*i)+256*byt s (2*i+1)) 16:=by
  unfold vl;refine sm_congr 16 fun j hj=> ?_
  unfold num;by_cases e:15=j
  ·subst e;rw[aw _ _ _ (by rw[yL];omega),numTo_get s 16 15 (by omega) (by omega),if_pos rfl]
  ·rw[getD_set_ne _ _ _ _ e,numTo_get s 16 j (by omega) hj,if_neg (by omega)]
 rw[e];simp only[sm,hb];obtain⟨b0,b1,b2,b3,b4,b5,b6,b7,b8,b9,b10,b11,b12,b13,b14,b15,b16,b17,b18,b19,b20,b21,b22,b23,b24,b25,b26,b27,b28,b29,b30,b31,e2⟩:=Ff.all32 _ hl;rw[e2];have h0:=b0.toNat_lt;have h1:=b1.toNat_lt;have h2:=b2.toNat_lt;have h3:=b3.toNat_lt;have h4:=b4.toNat_lt;have h5:=b5.toNat_lt;have h6:=b6.toNat_lt;have h7:=b7.toNat_lt;have h8:=b8.toNat_lt;have h9:=b9.toNat_lt;have h10:=b10.toNat_lt;have h11:=b11.toNat_lt;have h12:=b12.toNat_lt;have h13:=b13.toNat_lt;have h14:=b14.toNat_lt;have h15:=b15.toNat_lt;have h16:=b16.toNat_lt;have h17:=b17.toNat_lt;have h18:=b18.toNat_lt;have h19:=b19.toNat_lt;have h20:=b20.toNat_lt;have h21:=b21.toNat_lt;have h22:=b22.toNat_lt;have h23:=b23.toNat_lt;have h24:=b24.toNat_lt;have h25:=b25.toNat_lt;have h26:=b26.toNat_lt;have h27:=b27.toNat_lt;have h28:=b28.toNat_lt;have h29:=b29.toNat_lt;have h30:=b30.toNat_lt;have h31:=b31.toNat_lt;simp[Sc.num];omega
theorem z6(s:ByteArray)(h:s.size=32):Fd.fr (num s)=Gf.ofN (Sc.num s.data.toList%57896044618658097711785492504343953926634992332820282019728792003956564819968):=by
 unfold fr;rw[num_vl s h,zA]
end Fd
theorem eS{a:List Int}{b:List (BitVec 64)}(ha:Fd.Good a)(hb:Ff.Small b)(h:Fd.fr a=Ff.fe b):Fd.told a=Ff.bytes b:=by
 refine Sc.wQ ?_ ?_
 ·rw[Ff.bytes_length,Fd.us]
 ·rw[Fd.xr ha.1 ha.bd2,Ff.bytes_num hb,h]
theorem gc(s p:ByteArray)(V:List (BitVec 64))(hV:Ff.Small V)(h:Fd.fr (Fd.num p)=Ff.fe V):Fd.told (Rl.xA s p)=ci s.data.toList V:=by
 unfold ci;have hg:=Rl.num_good p;have e1:=Rl.ladTo_st (Rl.bitf (Rl.key s)) hg 255;obtain⟨sm,e2⟩:=pJ (aE s.data.toList) hV 255;rw[Rl.bits_key,h,←e2]at e1;have hF:=Rl.zl (Rl.bitf (Rl.key s)) hg 255;obtain⟨i1,i2⟩:=Ff.xd sm.2.1;obtain⟨t1,t2⟩:=Ff.tR sm.1 i1;refine eS (Fd.tN _ _ hF.1 (Fd.uv _ hF.2.1)) t1 ?_;rw[t2,i2];unfold Rl.xA Rl.last;rw[Fd.uG,Fd.yi];have ea:Fd.fr (Rl.uQ (Rl.bitf (Rl.key s)) (Fd.num p) 255).a=Ff.fe (Lad.to (aE s.data.toList) V 255).a:=congrArg Wk.St.a e1;have eb:Fd.fr (Rl.uQ (Rl.bitf (Rl.key s)) (Fd.num p) 255).b=Ff.fe (Lad.to (aE s.data.toList) V 255).b:=congrArg Wk.St.b e1;rw[ea,eb]
end Go.Proofs.YtclpbaokadfhhaaGreatDoor
