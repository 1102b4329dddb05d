import Derived.Test.YtclpbaokadfhhaaGreatDoorZa
set_option maxRecDepth 100000
set_option maxHeartbeats 1000000
namespace Go.Proofs.YtclpbaokadfhhaaGreatDoor
open Go.RowKit
def Ss(l:List ByteArray):Array Value:=(l.map Value.string).toArray
theorem pN(l:List ByteArray)(i:Nat)(h:i<l.length):(Ss l)[i]? =some (.string (l.getD i ⟨#[]⟩)):=by
 simp[Ss,List.getD,List.getElem?_eq_getElem h]
def aJ(limit:Nat)(l:List ByteArray):Bool:=l.any fun s=>decide (limit<s.size)
theorem sf(limit:Nat)(l:List ByteArray)(h: ∀j,j<l.length→(l.getD j ⟨#[]⟩).size≤limit):aJ limit l=false:=by
 rw[aJ,List.any_eq_false];intro x hx;obtain⟨i,hi,rfl⟩:=List.getElem_of_mem hx;have:=h i hi;rw[show l.getD i ⟨#[]⟩=l[i] by simp[List.getD,List.getElem?_eq_getElem hi]]at this;simp;omega
theorem qO(limit:Nat)(l:List ByteArray)(k:Nat)(hk:k<l.length)(h:limit<(l.getD k ⟨#[]⟩).size):aJ limit l=true:=by
 rw[aJ,List.any_eq_true];refine⟨l[k],List.getElem_mem hk,?_⟩;rw[show l.getD k ⟨#[]⟩=l[k] by simp[List.getD,List.getElem?_eq_getElem hk]]at h;simpa using h
theorem cn(b n limit:Nat)(l:List ByteArray)(t:Nat)(w:World)(_hl:limit≤1000000)(hn:n=l.length)(hn9:n≤1000)(hb:Blk w b (Ss l) t)
  (hs: ∀j,j<l.length→(l.getD j ⟨#[]⟩).size≤9223372036854775807):
  Calls Tryz.prog 27 #[.int .i64 limit,.slice (some ⟨b,0,none⟩) n n] w fun e w'=>e= .returned (.bool (aJ limit l))∧w'=w:=by
 have HN:Hid _:=hn;clear hn;have HS:Hid (∀j,j<l.length→(l.getD j ⟨#[]⟩).size≤9223372036854775807):=hs;clear hs;go_enter Tryz.func27,Tryz.ntmps27;go_wp2;go_loop [9] (fun i=> ∃k:Nat,k≤n∧i= .int .i64 k∧Hid (∀j,j<k→(l.getD j ⟨#[]⟩).size≤limit)) (fun i=>n - (intOf i).toNat)
 case atStart=>exact⟨0,by omega,rfl,fun j hj=>by omega⟩
 case round=>
  obtain⟨k,hk,rfl,HP⟩:=hrel;by_cases hlt:k<n
  ·have hc:=hb.cell k;have hkl:k<l.length:=by have:=HN.out;omega
   rw[pN _ _ hkl]at hc;have hsz:=HS.out k hkl;by_cases hlong:limit<(l.getD k ⟨#[]⟩).size
   ·have HA:Hid (aJ limit l=true):=qO limit l k hkl hlong;generalize l.getD k ⟨#[]⟩=x at hc hsz hlong;go_wp2;go_ret;exact⟨by rw[show aJ limit l=true from HA.out];rfl,rfl⟩
   ·have HP':Hid (∀j,j<k+1→(l.getD j ⟨#[]⟩).size≤limit):=fun j hj=>by
     by_cases e:j=k
     ·subst e;omega
     ·exact HP.out j (by omega)
    generalize l.getD k ⟨#[]⟩=x at hc hsz hlong;go_wp2;go_round
    case rel=>exact⟨k+1,by omega,by go_num,HP'⟩
    case measure=>simp[intOf];omega
  ·have HA:Hid (aJ limit l=false):=sf limit l (fun j hj=>HP.out j (by have:=HN.out;omega));go_wp2;go_ret;exact⟨by rw[show aJ limit l=false from HA.out];rfl,rfl⟩
theorem fQ(limit:Nat)(a:ByteArray):aJ limit [a]=decide (limit<a.size):=by simp[aJ]
theorem ll(limit:Nat)(a b:ByteArray):aJ limit [a,b]=(decide (limit<a.size)||decide (limit<b.size)):=by simp[aJ]
theorem jb(limit:Nat)(a b c:ByteArray):aJ limit [a,b,c]=(decide (limit<a.size)||(decide (limit<b.size)||decide (limit<c.size))):=by simp[aJ]
def bN(l:List ByteArray):Bool:=l.any fun s=>decide (¬s.size=32)
theorem nK(l:List ByteArray)(h: ∀j,j<l.length→(l.getD j ⟨#[]⟩).size=32):bN l=false:=by
 rw[bN,List.any_eq_false];intro x hx;obtain⟨i,hi,rfl⟩:=List.getElem_of_mem hx;have:=h i hi;rw[show l.getD i ⟨#[]⟩=l[i] by simp[List.getD,List.getElem?_eq_getElem hi]]at this;simp;omega
theorem mB(l:List ByteArray)(k:Nat)(hk:k<l.length)(h: ¬(l.getD k ⟨#[]⟩).size=32):bN l=true:=by
 rw[bN,List.any_eq_true];refine⟨l[k],List.getElem_mem hk,?_⟩;rw[show l.getD k ⟨#[]⟩=l[k] by simp[List.getD,List.getElem?_eq_getElem hk]]at h;simpa using h
theorem f7(b n:Nat)(l:List ByteArray)(t:Nat)(w:World)(hn:n=l.length)(hn9:n≤1000)(hb:Blk w b (Ss l) t)
  (hs: ∀j,j<l.length→(l.getD j ⟨#[]⟩).size≤9223372036854775807):
  Calls Tryz.prog 24 #[.slice (some ⟨b,0,none⟩) n n] w fun e w'=>e= .returned (.bool (bN l))∧w'=w:=by
 have HN:Hid _:=hn;clear hn;have HS:Hid (∀j,j<l.length→(l.getD j ⟨#[]⟩).size≤9223372036854775807):=hs;clear hs;go_enter Tryz.func24,Tryz.ntmps24;go_wp2;go_loop [7] (fun i=> ∃k:Nat,k≤n∧i= .int .i64 k∧Hid (∀j,j<k→(l.getD j ⟨#[]⟩).size=32)) (fun i=>n - (intOf i).toNat)
 case atStart=>exact⟨0,by omega,rfl,fun j hj=>by omega⟩
 case round=>
  obtain⟨k,hk,rfl,HP⟩:=hrel;by_cases hlt:k<n
  ·have hc:=hb.cell k;have hkl:k<l.length:=by have:=HN.out;omega
   rw[pN _ _ hkl]at hc;have hsz:=HS.out k hkl;by_cases hlong:(l.getD k ⟨#[]⟩).size=32
   ·have HP':Hid (∀j,j<k+1→(l.getD j ⟨#[]⟩).size=32):=fun j hj=>by
     by_cases e:j=k
     ·subst e;omega
     ·exact HP.out j (by omega)
    generalize l.getD k ⟨#[]⟩=x at hc hsz hlong;have i1:(x.size:Int)=32:=by omega
    go_wp2;go_round
    case rel=>exact⟨k+1,by omega,by go_num,HP'⟩
    case measure=>simp[intOf];omega
   ·have HA:Hid (bN l=true):=mB l k hkl hlong;generalize l.getD k ⟨#[]⟩=x at hc hsz hlong;have i1: ¬(x.size:Int)=32:=by omega
    go_wp2;go_ret;exact⟨by rw[show bN l=true from HA.out];rfl,rfl⟩
  ·have HA:Hid (bN l=false):=nK l (fun j hj=>HP.out j (by have:=HN.out;omega));go_wp2;go_ret;exact⟨by rw[show bN l=false from HA.out];rfl,rfl⟩
theorem bJ(s:ByteArray)(w:World)(hs:s.size≤140737488351232):
  Calls Tryz.prog 24 #[.slice (some ⟨w.heap.size,0,none⟩) 1 1] (w.alloc (.cells (Ss [s]) 9)) fun e w'=>e= .returned (.bool (decide (¬s.size=32)))∧w'=w.alloc (.cells (Ss [s]) 9):=by
 have:=f7 w.heap.size 1 [s] 9 _ rfl (by omega) (Blk.new w _ _) (by intro j hj;match j,hj with|0,_=>show s.size≤_;omega);rw[show bN [s]=decide (¬s.size=32) by simp[bN]]at this;exact this
theorem kA(s t:ByteArray)(w:World)(hs:s.size≤140737488351232)(ht:t.size≤140737488351232):
  Calls Tryz.prog 24 #[.slice (some ⟨w.heap.size,0,none⟩) 2 2] (w.alloc (.cells (Ss [s,t]) 9)) fun e w'=>e= .returned (.bool (decide (¬(s.size=32∧t.size=32))))∧w'=w.alloc (.cells (Ss [s,t]) 9):=by
 have:=f7 w.heap.size 2 [s,t] 9 _ rfl (by omega) (Blk.new w _ _) (by intro j hj;match j,hj with|0,_=>show s.size≤_;omega|1,_=>show t.size≤_;omega);rw[show bN [s,t]=decide (¬(s.size=32∧t.size=32)) by
  by_cases h1:s.size=32<;>by_cases h2:t.size=32<;>simp[bN,h1,h2]]at this
 exact this
end Go.Proofs.YtclpbaokadfhhaaGreatDoor
