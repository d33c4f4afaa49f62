import Derived.Test.YtdpoaadafcaffaaGreatDoorZ26
import Derived.Test.YtdpoaadafcaffaaGreatDoorRG
import Derived.Test.YtdpoaadafcaffaaGreatDoorZ17
set_option linter.unusedVariables false
set_option maxHeartbeats 8000000
set_option maxRecDepth 100000
namespace Go.Proofs.YtdpoaadafcaffaaGreatDoor.G
open Proofs.Tryz
open Go.RowKit
variable {w w':World}
structure Yi (w:World):Prop where
 g0:∃ t v,w.cell? ⟨7,0,none⟩=some (.iface t v)
 g1:∃ t v,w.cell? ⟨8,0,none⟩=some (.iface t v)
 g2:∃ t v,w.cell? ⟨9,0,none⟩=some (.iface t v)
 g6:w.cell? ⟨6,0,none⟩=some (.iface 250 (.agg #[.pointer (some ⟨15,135,none⟩)]))
theorem Yi.pos (h:Yi w):9<w.heap.size:=by
 obtain ⟨t,v,h6⟩:=h.g2;rcases Nat.lt_or_ge 9 w.heap.size with h | h
 · exact h
 simp [World.cell?,Array.getElem?_eq_none h] at h6
theorem Yi.below (h:Yi w) (hb:Below w.heap.size w w'):Yi w':=by
 have hp:=h.pos;obtain ⟨t0,v0,h0⟩:=h.g0;obtain ⟨t1,v1,h1⟩:=h.g1;obtain ⟨t2,v2,h2⟩:=h.g2;exact ⟨⟨t0,v0,(hb.cell (p:=⟨7,0,none⟩) (by show 7<w.heap.size;omega)).trans h0⟩,⟨t1,v1,(hb.cell (p:=⟨8,0,none⟩) (by show 8<w.heap.size;omega)).trans h1⟩,⟨t2,v2,(hb.cell (p:=⟨9,0,none⟩) (by show 9<w.heap.size;omega)).trans h2⟩,(hb.cell (p:=⟨6,0,none⟩) (by show 6<w.heap.size;omega)).trans h.g6⟩
theorem zF (l:List UInt8) (w:World) (hs:l.length<=1048700) (hm:N8 w):
 Calls prog 91 #[.string (K3 l),.string ⟨#[32]⟩] w fun e w'=>(∃ y,e=.returned (.tuple #[.string (K3 (U1 l)),.string (K3 (Z0 l)),.bool y]))/\Below w.heap.size w w':=by
 obtain ⟨_,m,hm⟩:=hm;refine (Tryz.strings_Cut (K3 l) ⟨#[32]⟩ m w (by rw [Y2];omega) hm).mono ?_;rintro e w' ⟨rfl,n,rfl⟩;refine ⟨⟨(Lib.cut l [32]).2.2,?_⟩,below_drewN n⟩;rw [<- zz,<- EC];rfl
theorem VF (l:List UInt8) (w:World) (hs:l.length<=1048700) (hm:N8 w):
 Calls prog 91 #[.string (K3 l),.string ⟨#[10]⟩] w fun e w'=>e=.returned (.tuple #[.string (K3 (Lib.cut l [10]).1),.string (K3 (Lib.cut l [10]).2.1),.bool (Lib.cut l [10]).2.2])/\Below w.heap.size w w':=by
 obtain ⟨_,m,hm⟩:=hm;refine (Tryz.strings_Cut (K3 l) ⟨#[10]⟩ m w (by rw [Y2];omega) hm).mono ?_;rintro e w' ⟨rfl,n,rfl⟩;exact ⟨rfl,below_drewN n⟩
theorem Un (l:List UInt8) (w:World) (hs:l.length<=1048700) (hm:N8 w):
 Calls prog 134 #[.string (K3 l),.string ⟨#[32]⟩,.int .i64 3] w fun e w'=>(∃ cap,e=.returned (.slice (some ⟨w.heap.size,0,none⟩) (D6 l 2).length cap)/\P6 w' w.heap.size (D6 l 2))/\Below w.heap.size w w':=by
 obtain ⟨_,m,hm⟩:=hm;refine (Tryz.strings_SplitN (K3 l) ⟨#[32]⟩ 3 m w (by rw [Y2];omega) hm J3 O0 O0).mono ?_;have hd:Lib.splitB ⟨#[32]⟩ 0 (min 3 ((K3 l).size+1) - 1) (K3 l)=(D6 l 2).map K3:=by
  refine Eo ?_;rw [Lib.splitB_data ⟨#[32]⟩ 0 (min 3 ((K3 l).size+1) - 1) (K3 l),Y2,<- Gy l];rfl
 have hlen:(D6 l 2).length<=min 3 ((K3 l).size+1):=by
  have:=Lib.splitB_length_le ⟨#[32]⟩ 0 (min 3 ((K3 l).size+1) - 1) (K3 l);rw [hd,List.length_map] at this;omega
 rintro e w' ⟨rfl,rfl⟩;rw [hd];refine ⟨⟨_,by rw [List.length_map],U0,fun i hi=>?_⟩,bA⟩;have hc:(Lib.cellsOf ((D6 l 2).map K3) (min 3 ((K3 l).size+1)))[i]?=some (.string (K3 ((D6 l 2).getD i []))):=by
  unfold Lib.cellsOf;rw [List.getElem?_toArray,List.getElem?_append_left (by simpa using hi)];simp [hi]
 rw [<- hc];simp
theorem zI {u:World} (hb:Below (w.heap.size+1) (w.alloc (.cells #[.string ⟨#[]⟩,.string ⟨#[]⟩,.string ⟨#[]⟩] 35)) u):
 (u.cell? ⟨w.heap.size,0,none⟩=some (.string ⟨#[]⟩)/\u.cell? ⟨w.heap.size,1,none⟩=some (.string ⟨#[]⟩)/\u.cell? ⟨w.heap.size,2,none⟩=some (.string ⟨#[]⟩))/\u.frozen? ⟨w.heap.size,0,none⟩=false/\u.frozen? ⟨w.heap.size,1,none⟩=false/\u.frozen? ⟨w.heap.size,2,none⟩=false:=by
 have c:∀ j,u.cell? ⟨w.heap.size,j,none⟩=(w.alloc (.cells #[.string ⟨#[]⟩,.string ⟨#[]⟩,.string ⟨#[]⟩] 35)).cell? ⟨w.heap.size,j,none⟩:=fun j=>hb.cell U0;have f:∀ j,u.frozen? ⟨w.heap.size,j,none⟩=(w.alloc (.cells #[.string ⟨#[]⟩,.string ⟨#[]⟩,.string ⟨#[]⟩] 35)).frozen? ⟨w.heap.size,j,none⟩:=fun j=>hb.frozen U0;rw [c,c,c,f,f,f];simp
theorem fw (l:List UInt8) (w:World) (hs:l.length<=1048700):Calls prog 135 #[.string (K3 l)] w fun e w'=>Ou l e/\Below w.heap.size w w':=nI (K3 l) w (by rw [Y2];exact hs)
def PG (l:List UInt8) (e:Ending):Prop:=∃ (x:M3) (ok:Bool),e=.returned (.tuple #[x.v,.bool ok])/\Dp l x ok
theorem c143 (l:List UInt8) (w:World) (hs:l.length<=300) (hmx:N8 w):
 Calls prog 143 #[.string (K3 l)] w fun e w'=>PG l e/\Below w.heap.size w w':=by
 have hno:(∀ y,Z9 y=true->l≠Jc y)->Hid (PG l (.returned (.tuple #[.agg #[.string ⟨#[]⟩,.string ⟨#[]⟩,.string ⟨#[]⟩],.bool false]))):=fun h=>⟨X6,false,rfl,oz h⟩;have hB0:Below w.heap.size w (w.alloc (.cells #[.string ⟨#[]⟩,.string ⟨#[]⟩,.string ⟨#[]⟩] 35)):=bA;go_enter func143,ntmps143
 go_wp2_with fail
 refine (Un l _ O0 (P8 hmx hB0)).mono ?_;rintro e w1 ⟨⟨cap,rfl,hln⟩,hb1⟩;have hx1:Below (w.heap.size+1) (w.alloc (.cells #[.string ⟨#[]⟩,.string ⟨#[]⟩,.string ⟨#[]⟩] 35)) w1:=by simpa using hb1
 have hB1:=hB0.trans (hx1.mono O0);have JM:Hid (P6 w1 (w.heap.size+1) (D6 l 2)):=by have h:=hln;simp at h;exact h
 clear hb1 hln;obtain ⟨⟨z0,z1,z2⟩,y0,y1,y2⟩:=zI hx1;by_cases hm:(32:UInt8)∈l;rotate_left
 · have hp:D6 l 2=[l]:=j_ _ hm
   have HI:=hno (fun y hy e=>hm (Cj hy e).1.1);rw [hp];clear hno hp hm;simp only [List.length_cons,List.length_nil];go_wp2;refine bodyPost_ret (v:=.tuple #[.agg #[.string ⟨#[]⟩,.string ⟨#[]⟩,.string ⟨#[]⟩],.bool false]) (by simp [results,Tryz.results143,go_sem,z0,z1,z2]) rfl ⟨HI.out,((hB1.setCell U0 _).setCell U0 _).setCell U0 _⟩
 by_cases hm2:(32:UInt8)∈Z0 l;rotate_left
 · have hp:D6 l 2=[U1 l,Z0 l]:=by rw [o_ 1 hm,j_ _ hm2]
   have HI:=hno (fun y hy e=>hm2 (Cj hy e).1.2);rw [hp];clear hno hp hm hm2;simp only [List.length_cons,List.length_nil];go_wp2;refine bodyPost_ret (v:=.tuple #[.agg #[.string ⟨#[]⟩,.string ⟨#[]⟩,.string ⟨#[]⟩],.bool false]) (by simp [results,Tryz.results143,go_sem,z0,z1,z2]) rfl ⟨HI.out,((hB1.setCell U0 _).setCell U0 _).setCell U0 _⟩
 have hp:D6 l 2=[U1 l,U1 (Z0 l),Z0 (Z0 l)]:=by rw [o_ 1 hm,o_ 0 hm2,Jb]
 rw [hp] at JM ⊢;have hlt1:=JM.out.1;have p0:w1.cell? ⟨w.heap.size+1,0,none⟩=some (.string (K3 (U1 l))):=JM.out.2 0 U0;have p1:w1.cell? ⟨w.heap.size+1,1,none⟩=some (.string (K3 (U1 (Z0 l)))):=JM.out.2 1 U0;have p2:w1.cell? ⟨w.heap.size+1,2,none⟩=some (.string (K3 (Z0 (Z0 l)))):=JM.out.2 2 U0;have hr1:=I9 l;have hr2:=I9 (Z0 l);have hbp:=fun (t:List UInt8) (ok:Bool) hu=>Bq (l:=l) (t:=t) (ok:=ok) hm hm2 hu;clear hp;generalize hA:U1 l=A at*;generalize hR:Z0 l=R at*;generalize hBB:U1 R=B at*;generalize hQ:Z0 R=Q at*;simp only [List.length_cons,List.length_nil]
 go_wp2_with fail
 refine (fw _ _ O0).mono ?_;rintro e w2 ⟨⟨t,ok,rfl,hu⟩,hb2⟩;have hx2:=hx1.trans (hb2.mono O0);have hB2:=hB0.trans (hx2.mono O0);have hlt2:=Nat.lt_of_lt_of_le hlt1 hb2.size;have q0:=(hb2.cell (by exact hlt1)).trans p0;have q1:=(hb2.cell (by exact hlt1)).trans p1;have q0':=past (by exact hlt2) q0;have q1':=past (by exact hlt2) q1;clear z0 z1 z2 y0 y1 y2 p0 p1 p2 JM;obtain ⟨⟨z0,z1,z2⟩,y0,y1,y2⟩:=zI hx2;have FL:w.heap.size<w2.heap.size:=O0;have nS:=past (by exact FL) z0;have z1':=past (by exact FL) z1;have z2':=past (by exact FL) z2;have y0':=Ya (by exact FL) y0;have y1':=Ya (by exact FL) y1;have y2':=Ya (by exact FL) y2;have kZ:=hbp t ok hu;clear hbp;cases ok
 · have HI:=hno (kZ.2 U0)
   clear hno kZ hu
   go_wp2_with fail
   go_region
   all_goals
    go_wp2_with fail
    have F:=ja w2 w.heap.size 0 (.string ⟨#[]⟩) (.string ⟨#[]⟩) (.string ⟨#[]⟩) _ _ _ z0 z1 z2;simp only [Nat.zero_add] at F;have G0:=past (p:=⟨w.heap.size,0,none⟩) (by simpa using FL) F.1;have G1:=past (p:=⟨w.heap.size,1,none⟩) (by simpa using FL) F.2.1;have G2:=past (p:=⟨w.heap.size,2,none⟩) (by simpa using FL) F.2.2;refine bodyPost_ret (v:=.tuple #[.agg #[.string ⟨#[]⟩,.string ⟨#[]⟩,.string ⟨#[]⟩],.bool false]) (by simp [results,Tryz.results143,go_sem,G0,G1,G2]) rfl ⟨HI.out,?_⟩
    first
     | exact ((((hB2.setCell U0 _).setCell U0 _).setCell U0 _).alloc (by simpa using hB2.size) _).drew
     | exact (((hB2.setCell U0 _).setCell U0 _).setCell U0 _).alloc (by simpa using hB2.size) _
 have hQl:=hu.1 rfl;have htl:t.length<=300:=by
  have:=Gi t;rw [<- hQl] at this;omega
 have hle:(⟨K3 A,K3 B,K3 t⟩:M3).le 1048700:=⟨by rw [Y2];omega,by rw [Y2];omega,by rw [Y2];omega⟩;clear hu;cases hk:Z9 ⟨K3 A,K3 B,K3 t⟩
 · have HI:=hno (kZ.2 (by rw [hk];simp))
   have h32:=fun w'=>ZH hk w' hle;clear hno kZ hk
   go_wp2_with fail
   go_region
   all_goals
    go_wp2_with fail
    refine (h32 _).mono ?_;rintro e w3 ⟨rfl,hb3⟩;have hx3:Below (w.heap.size+1) (w.alloc (.cells #[.string ⟨#[]⟩,.string ⟨#[]⟩,.string ⟨#[]⟩] 35)) w3:=by
     refine Below.trans ?_ (hb3.mono X3)
     first | exact (hx2.alloc O0 _).drew | exact hx2.alloc O0 _
    have hB3:=hB0.trans (hx3.mono O0);clear z0 z1 z2 y0 y1 y2 nS z1' z2' y0' y1' y2';obtain ⟨⟨z0,z1,z2⟩,y0,y1,y2⟩:=zI hx3;go_wp2;refine bodyPost_ret (v:=.tuple #[.agg #[.string ⟨#[]⟩,.string ⟨#[]⟩,.string ⟨#[]⟩],.bool false]) (by simp [results,Tryz.results143,go_sem,z0,z1,z2]) rfl ⟨HI.out,((hB3.setCell U0 _).setCell U0 _).setCell U0 _⟩
 have HI:Hid (PG l (.returned (.tuple #[.agg #[.string (K3 A),.string (K3 B),.string (K3 t)],.bool true]))):=⟨⟨K3 A,K3 B,K3 t⟩,true,rfl,kZ.1 rfl hk⟩;have h32:=fun w'=>ZH hk w' hle;clear hno kZ hk
 go_wp2_with fail
 go_region
 all_goals
  go_wp2_with fail
  refine (h32 _).mono ?_;rintro e w3 ⟨rfl,hb3⟩;have hx3:Below (w.heap.size+1) (w.alloc (.cells #[.string ⟨#[]⟩,.string ⟨#[]⟩,.string ⟨#[]⟩] 35)) w3:=by
   refine Below.trans ?_ (hb3.mono X3)
   first | exact (hx2.alloc O0 _).drew | exact hx2.alloc O0 _
  have hB3:=hB0.trans (hx3.mono O0);have m0:w3.cell? ⟨w2.heap.size,0,none⟩=some (.string (K3 A)):=by rw [hb3.cell U0];simp [go_sem]
  have m1:w3.cell? ⟨w2.heap.size,1,none⟩=some (.string (K3 B)):=by rw [hb3.cell U0];simp [go_sem]
  have m2:w3.cell? ⟨w2.heap.size,2,none⟩=some (.string (K3 t)):=by rw [hb3.cell U0];simp [go_sem]
  clear z0 z1 z2 y0 y1 y2 nS z1' z2' y0' y1' y2';obtain ⟨⟨z0,z1,z2⟩,y0,y1,y2⟩:=zI hx3;go_wp2;have F:=ja w3 w.heap.size 0 (.string (K3 A)) (.string (K3 B)) (.string (K3 t)) _ _ _ z0 z1 z2;simp only [Nat.zero_add] at F;refine bodyPost_ret (v:=.tuple #[.agg #[.string (K3 A),.string (K3 B),.string (K3 t)],.bool true]) (by simp [results,Tryz.results143,go_sem,F.1,F.2.1,F.2.2]) rfl ⟨HI.out,((hB3.setCell U0 _).setCell U0 _).setCell U0 _⟩
theorem JJ (s:ByteArray) (w:World):
 Calls prog 142 #[.string s,.string ⟨#[10]⟩] w fun e w'=>(∃ n,e=.returned (.int .i64 n))/\w'=w:=by
 go_enter func142,ntmps142;go_wp2;rw [run_callFunc_extern func177 I1 I1 I1 (e:=Extern.BytealgCount.count) I1,Lib.run_countString];simp only [Result.andThen];rw [Oper.upon_value];go_wp2;go_ret;exact ⟨⟨_,rfl⟩,rfl⟩
structure Xl (w:World):Prop where
 va:Yi w
 g3:∃ t v,w.cell? ⟨3,0,none⟩=some (.iface t v)
 g4:∃ t v,w.cell? ⟨4,0,none⟩=some (.iface t v)
 g5:∃ t v,w.cell? ⟨5,0,none⟩=some (.iface t v)
 mx:N8 w
theorem Xl.below (h:Xl w) (hb:Below w.heap.size w w'):Xl w':=by
 have hp:=h.va.pos;obtain ⟨t3,v3,h3⟩:=h.g3;obtain ⟨t4,v4,h4⟩:=h.g4;obtain ⟨t5,v5,h5⟩:=h.g5;exact ⟨h.va.below hb,⟨t3,v3,(hb.cell (p:=⟨3,0,none⟩) (by show 3<w.heap.size;omega)).trans h3⟩,⟨t4,v4,(hb.cell (p:=⟨4,0,none⟩) (by show 4<w.heap.size;omega)).trans h4⟩,⟨t5,v5,(hb.cell (p:=⟨5,0,none⟩) (by show 5<w.heap.size;omega)).trans h5⟩,P8 h.mx hb⟩
def ND (w:World) (l:List UInt8) (e:Ending) (w':World):Prop:=∃ (ms:List M3) (v er:Value),e=.returned (.tuple #[v,er])/\w'.ownsRow w.heap.size 35 3 v ms.length (F5 ms)/\((er=.nilIface/\l9 l ms true)\/((∃ n ty va,er=.iface 187 (.agg #[.int .i64 n,.iface ty va]))/\l9 l [] false))
theorem ql {l:List UInt8} (n:Int) (ty:TypeId) (va:Value) (h:l9 l [] false):ND w l (.returned (.tuple #[.slice none 0 0,.iface 187 (.agg #[.int .i64 n,.iface ty va])])) w':=⟨[],_,_,rfl,World.ownsRow_nil _ _ _ _,.inr ⟨⟨n,ty,va,rfl⟩,h⟩⟩
theorem zx (s:ByteArray) (w:World) (hs:s.size<=1048576) (KL:300<s.size) (hv:Xl w):
 Calls prog 114 #[.string s] w fun e w'=>ND w s.data.toList e w'/\Below w.heap.size w w':=by
 have HR:Hid (l9 s.data.toList [] false):=Be (by simpa using KL);obtain ⟨t3,v3,g3⟩:=hv.g3;go_enter func114,ntmps114
 go_wp2_with fail
 go_region_with (go_at_call 142;refine (JJ _ _).mono ?_;rintro e w' ⟨⟨n,rfl⟩,rfl⟩)
 all_goals go_wp2
 all_goals go_ret2
 all_goals exact ⟨ql _ _ _ HR.out,by first | exact Below.refl _ _ | exact (Below.refl _ _).drew⟩
theorem mH (s:ByteArray) (b:UInt8) (w:World) (hs:s.size<=1048700):
 Calls prog 120 #[.string s,.int .u8 b.toNat] w fun e w'=>(∃ g cp,e=.returned (.slice (some ⟨g,0,none⟩) (Z6 b s.data.toList).length cp)/\w'.ownsRow w.heap.size 9 1 (.slice (some ⟨g,0,none⟩) (Z6 b s.data.toList).length cp) (Z6 b s.data.toList).length (Ei (Z6 b s.data.toList)))/\Below w.heap.size w w':=by
 obtain ⟨i0,hi,hz0,hz1,hz2⟩:=info_parts Yv;have hlen:s.data.toList.length=s.size:=U0;go_enter func120,ntmps120
 go_wp2_with fail
 go_loopw [5,6,7] (fun v fr i wr=>∃ (k f:Nat),k<=s.size/\f<=k/\i=.int .i64 k/\fr=.int .i64 f/\wr.ownsRow w.heap.size 9 1 v (E5 b (s.data.toList.take k)).1.length (Ei (E5 b (s.data.toList.take k)).1)/\Hid ((s.data.toList.take k).drop f=(E5 b (s.data.toList.take k)).2)/\Below w.heap.size w wr/\w.heap.size+1<=wr.heap.size) (fun _ _ i _=>s.size - (intOf i).toNat)
 case atStart=>exact ⟨0,0,Nat.zero_le _,Nat.le_refl _,rfl,rfl,World.ownsRow_lit _ #[] 0 Q8 (Nat.zero_le _) rfl,rfl,bA,U0⟩
 obtain ⟨k,f,hk,hf,rfl,rfl,hown,hcur,hb,hz⟩:=hrel;have hL:(E5 b (s.data.toList.take k)).1.length<=k:=by
  have:=Wi b (s.data.toList.take k);rw [List.length_take] at this;omega
 by_cases hlt:k<s.size;rotate_left
 · have HK:Hid (s.data.toList.take k=s.data.toList):=List.take_of_length_le O0
   have HE:Hid (s.extract f s.size=K3 (E5 b (s.data.toList.take k)).2):=P9 (by rw [U8,<- show k=s.size by omega];exact hcur.out);have rU:Hid (Z6 b s.data.toList=(E5 b (s.data.toList.take k)).1++[(E5 b (s.data.toList.take k)).2]):=by rw [HK.out];rfl
   clear hcur;generalize E5 b (s.data.toList.take k)=st at*
   go_wp2_with (at_builtin;refine wpList_append_own _ rfl _ _ 73 rfl w.heap.size 9 i0 (.string ⟨#[]⟩) 1 16 underlying73 hi hz0 hz1 hz2 rfl J3 _ _ _ rfl (hown.alloc _) ⟨wr.heap.size,0,none⟩ 1 1 [_] rfl rfl (cell_one_new _ _ _) (by intro u hu;simp at hu;subst hu;rfl) (by unfold maxLen;omega) O0 X3 ?_;intro v' w2 hown' hgrow _;obtain ⟨g,cp,hvv⟩:=ae hown' O0;subst hvv)
   go_ret;have hB2:=(hb.alloc hb.size _).grown hgrow X3 (fun j hj=>(hown.lt j hj).1);have ho2:w2.ownsRow w.heap.size 9 1 (.slice (some ⟨g,0,none⟩) (st.1.length+1) cp) (st.1.length+1) (Ei (Z6 b s.data.toList)):=by
    rw [rU.out,Uc,<- HE.out];exact hown'
   have hlc:(Z6 b s.data.toList).length=st.1.length+1:=by rw [rU.out];simp
   refine ⟨⟨g,cp,by rw [hlc];rfl,by rw [hlc];exact ho2⟩,hB2⟩
 have HS:Hid (E5 b (s.data.toList.take (k+1))=cst b (E5 b (s.data.toList.take k)) s[k]):=by rw [o9 s k hlt,zk];rfl
 have HE:Hid (s.extract f k=K3 (E5 b (s.data.toList.take k)).2):=P9 (by rw [U8];exact hcur.out);by_cases hc:s[k]=b
 · have e1:((s[k].toNat:Int)==(b.toNat:Int))=true:=by rw [hc];simp
   have HC:Hid (cst b (E5 b (s.data.toList.take k)) s[k]=((E5 b (s.data.toList.take k)).1++[(E5 b (s.data.toList.take k)).2],[])):=by unfold cst;rw [if_pos hc];rfl
   have HD:Hid ((s.data.toList.take (k+1)).drop (k+1)=[]):=List.drop_of_length_le X3;clear hc hcur;generalize E5 b (s.data.toList.take k)=st at*
   go_wp2_with (at_builtin;refine wpList_append_own _ rfl _ _ 73 rfl w.heap.size 9 i0 (.string ⟨#[]⟩) 1 16 underlying73 hi hz0 hz1 hz2 rfl J3 _ _ _ rfl (hown.alloc _) ⟨wr.heap.size,0,none⟩ 1 1 [_] rfl rfl (cell_one_new _ _ _) (by intro u hu;simp at hu;subst hu;rfl) (by unfold maxLen;omega) O0 X3 ?_;intro v' w2 hown' hgrow _)
   go_roundw
   case rel=>
    have hB2:=(hb.alloc hb.size _).grown hgrow X3 (fun j hj=>(hown.lt j hj).1);refine ⟨k+1,k+1,O0,Nat.le_refl _,by go_num,by go_num,?_,?_,hB2,by have:=hgrow.size;simp at this;omega⟩
    · rw [HS.out,HC.out,List.length_append,Uc,<- HE.out]
      exact hown'
    rw [HS.out,HC.out];exact HD.out
   case measure=>simp [intOf];omega
 have e1:((s[k].toNat:Int)==(b.toNat:Int))=false:=by
  simp only [beq_eq_false_iff_ne];intro e;exact hc (UInt8.toNat_inj.1 O0)
 have HC:Hid (cst b (E5 b (s.data.toList.take k)) s[k]=((E5 b (s.data.toList.take k)).1,(E5 b (s.data.toList.take k)).2++[s[k]])):=by unfold cst;rw [if_neg hc];rfl
 have HD:Hid ((s.data.toList.take (k+1)).drop f=(s.data.toList.take k).drop f++[s[k]]):=by rw [o9 s k hlt,List.drop_append_of_le_length X3];rfl
 clear hc;generalize E5 b (s.data.toList.take k)=st at*;go_wp2;go_roundw
 case rel=>
  refine ⟨k+1,f,O0,O0,by go_num,rfl,?_,?_,hb,hz⟩
  · rw [HS.out,HC.out];exact hown
  rw [HS.out,HC.out,HD.out,hcur.out];rfl
 case measure=>simp [intOf];omega
theorem own_ne {B B' e e' size size' n n':Nat} {v v':Value} {xs xs':List Value} (h:w.ownsRow B e size v n xs) (h':w.ownsRow B' e' size' v' n' xs') (hne:e≠e'):v.ownBlock=none\/v.ownBlock≠v'.ownBlock:=by
 rcases h.2 with ⟨rfl,_⟩ | ⟨g,cap,cur,rfl,_,hgg,_⟩
 · exact .inl rfl
 rcases h'.2 with ⟨rfl,_⟩ | ⟨g',cap',cur',rfl,_,WX,_⟩
 · exact .inr (by simp [Value.ownBlock])
 refine .inr fun he=>?_;simp only [Value.ownBlock,Option.some.injEq] at he;subst he;rw [hgg] at WX;simp only [Option.some.injEq,Obj.cells.injEq] at WX;exact hne WX.2.1
theorem Yu (l:List UInt8) (w:World) (hs:l.length<=1048700):
 Calls prog 122 #[.string (K3 l)] w fun e w'=>(∃ t,e=.returned (.string (K3 t))/\t.length<=l.length+1/\∀ q,l=J4 q->t=q)/\Below w.heap.size w w':=by
 have:=jH (K3 l) w (by rw [Y2];exact hs);rw [Y2] at this;exact this
theorem uH (l:List UInt8) (w:World) (hs:l.length<=1048700):
 Calls prog 121 #[.string (K3 l),.int .i64 3] w fun e w'=>(∃ g cp,e=.returned (.tuple #[.slice (some ⟨g,0,none⟩) 3 cp,.string (K3 (E_ l 3))])/\w.heap.size<=g/\P6 w' g (Td l 3))/\Below w.heap.size w w':=nH (K3 l) w (by rw [Y2];exact hs)
theorem Nb {ms:List M3} {x:M3} {B:Nat} (h:∀ j,(ms.getD j X6).le B) (hx:x.le B) (j:Nat):((ms++[x]).getD j X6).le B:=by
 rcases Nat.lt_trichotomy j ms.length with hj | hj | hj
 · have:(ms++[x]).getD j X6=ms.getD j X6:=by simp [List.getD,List.getElem?_append_left hj]
   rw [this];exact h j
 · subst hj
   have:(ms++[x]).getD ms.length X6=x:=by simp [List.getD]
   rw [this];exact hx
 have:(ms++[x]).getD j X6=X6:=by simp [List.getD,List.getElem?_eq_none (show (ms++[x]).length<=j by simp;omega)]
 rw [this];exact ⟨Nat.zero_le _,Nat.zero_le _,Nat.zero_le _⟩
theorem cell_grown {row:Option Nat} (hg:w.grownBy w' row) {p:Addr} (hp:p.block<w.heap.size) (hne:some p.block≠row):w'.cell? p=w.cell? p:=by
 unfold World.cell?;rw [hg.block p.block hp hne]
def pJ (l:List UInt8) (e:Ending) (w':World):Prop:=∃ (ms:List M3) (ok:Bool) (a:Option Addr) (cap:Nat),e=.returned (.tuple #[.slice a ms.length cap,.bool ok])/\Ab w' a ms/\l9 l ms ok
theorem NK (s:ByteArray) (w:World) (hs:s.size<=1048576):
 Calls prog 84 #[.string s] w fun e w'=>pJ s.data.toList e w'/\Below w.heap.size w w':=by
 have hlen:s.data.toList.length=s.size:=U0;obtain ⟨i0,hi,hz0,hz1,hz2⟩:=info_parts JA;by_cases KL:300<s.size
 · have HR:Hid (l9 s.data.toList [] false):=Be O0
   go_enter func84,ntmps84;go_wp2;go_ret2;exact ⟨⟨[],false,_,_,rfl,.inl rfl,HR.out⟩,bA⟩
 go_enter func84,ntmps84
 go_wp2_with fail
 refine (mH s 10 _ O0).mono ?_;rintro e w1 ⟨⟨g,cp,rfl,hln⟩,hb1⟩;have hx1:=bA.trans (hb1.mono U0);have hz1':w.heap.size+1<=w1.heap.size:=by have:=hb1.size;simpa using this
 have a0y:w1.ownsRow w.heap.size 35 3 (.slice (some ⟨w.heap.size,0,none⟩) 0 0) 0 (F5 []):=ownsRow_below (World.ownsRow_lit _ #[] 0 Q8 (Nat.zero_le _) rfl) hb1;have a2h:w1.ownsRow w.heap.size 9 1 (.slice (some ⟨g,0,none⟩) (Z6 10 s.data.toList).length cp) (Z6 10 s.data.toList).length (Ei (Z6 10 s.data.toList)):=V4 hln U0;obtain ⟨hn1,hn2⟩:=Pk 10 s.data.toList;have HCS:=Q0 (Sj 10 s.data.toList);clear hb1 hln
 go_wp2_with fail
 generalize hLs:Z6 10 s.data.toList=Ls at*;have TQ:=Q0 hLs;clear hLs;go_loopw [4,6] (fun v i wr=>∃ (k:Nat) (ms:List M3),k+1<=Ls.length/\i=.int .i64 k/\ms.length=k/\Hid (lg s.data.toList ms k)/\Hid (∀ j,(ms.getD j X6).le 1048576)/\wr.ownsRow w.heap.size 35 3 v ms.length (F5 ms)/\wr.ownsRow w.heap.size 9 1 (.slice (some ⟨g,0,none⟩) Ls.length cp) Ls.length (Ei Ls)/\Below w.heap.size w wr/\w.heap.size+1<=wr.heap.size) (fun _ i _=>Ls.length - (intOf i).toNat)
 case atStart=>exact ⟨0,[],O0,rfl,rfl,Zf _,(fun j=>⟨Nat.zero_le _,Nat.zero_le _,Nat.zero_le _⟩),a0y,a2h,hx1,hz1'⟩
 obtain ⟨k,ms,hk,rfl,eX,hso,htx,hown,hrow,hb,qO⟩:=hrel;subst eX;obtain ⟨ao,co,hv⟩:=E8 hown;subst hv;by_cases hlt:ms.length+1<Ls.length;rotate_left
 · obtain ⟨E1,E2⟩:=Oj hso.out rfl (by rw [TQ.out];omega) O0
   have uS:=Q0 E1;have HE2:=Q0 E2;clear E1 E2;obtain ⟨ao',cap',hv',hat⟩:=U6 hown;injection hv' with h1 h2 h3;subst h1 h3;have HAT:=Q0 hat;have hmm:ms.length<=1048576:=O0;have HC:=GJ ao co ms wr htx.out hmm hat;clear hat
   go_wp2_with fail
   refine HC.mono ?_;rintro e w5 ⟨rfl,hb5⟩;have NN:=bT hb hb5;have a2i:=Q0 (Ob HAT.out hb5);clear HC;by_cases hf:Ka ms=s.data.toList
   · have HR:=Q0 (uS.out hf)
     have e2:(K3 (Ka ms)).toList=s.toList:=by rw [hf,ByteArray.toList_eq,ByteArray.toList_eq];rfl
     have e1:((K3 (Ka ms)).toList==s.toList)=true:=by simpa using e2
     clear uS HE2 hf;go_wp2;go_ret2;exact ⟨⟨ms,true,_,_,rfl,a2i.out,HR.out⟩,NN⟩
   have HR:=Q0 (HE2.out hf);have e2:¬ (K3 (Ka ms)).toList=s.toList:=by rw [ByteArray.toList_eq,ByteArray.toList_eq];simpa [K3] using hf
   have e1:((K3 (Ka ms)).toList==s.toList)=false:=by simpa using e2
   clear uS HE2 hf;go_wp2;go_ret2;exact ⟨⟨[],false,_,_,rfl,.inl rfl,HR.out⟩,NN.alloc NN.size _⟩
 have AP:=Vb hrow rfl;have l0:=AP.2 ms.length O0;have hLl:=HCS.out ms.length;have a2j:=fun (t:List UInt8) ht=>parsed (l:=Ls.getD ms.length []) (t:=t) ht;generalize hL:Ls.getD ms.length []=L at*;have HL:=Q0 hL;clear hL;have hiB:(ms.length:Int)<(Ls.length:Int):=O0
 go_wp2_with fail
 refine (uH L _ O0).mono ?_;rintro e w2 ⟨⟨g2,cp2,rfl,hg2,FU⟩,hb2⟩;have hB2:=bT hb hb2;have hown2:=ownsRow_below hown hb2;have hrow2:=ownsRow_below hrow hb2;have hz2':=Nat.le_trans qO hb2.size;have q1:w2.cell? ⟨g2,1,none⟩=some (.string (K3 (U1 (E_ L 1)))):=FU.2 1 (by simp [Td]);have q2:w2.cell? ⟨g2,2,none⟩=some (.string (K3 (U1 (E_ L 2)))):=FU.2 2 (by simp [Td]);have a0z:=FU.1;have r1:=zg L 1;have r2:=zg L 2;have r3:=zg L 3;have r1':=(I9 (E_ L 1)).1;have r2':=(I9 (E_ L 2)).1;generalize hA:U1 (E_ L 1)=A at*;generalize hBB:U1 (E_ L 2)=B at*;generalize hQ:E_ L 3=Q at*;clear hA hBB hQ FU AP l0
 go_wp2_with fail
 refine wp_region_held_drew (S:=(fun u=>u.cell? ⟨g2,1,none⟩=some (.string (K3 A))/\u.cell? ⟨g2,2,none⟩=some (.string (K3 B)))) I1 ?_ fun hH=>?_
 · ((try dsimp only);go_keep)
 refine tq 0 hH ?_;refine tq 1 hH ?_;refine tq 2 hH ?_;refine tq 3 hH ?_;refine tq 4 hH ?_;refine tq 5 hH ?_;refine tq 6 hH ?_;refine tq 7 hH ?_
 try simp only [qq]
 refine rq 8 fun K hK=>?_;go_simp;refine (Yu Q _ O0).mono ?_;rintro e w3 ⟨⟨t,rfl,htl,nX⟩,hb3⟩;have HB3:Hid (Below w2.heap.size w2 w3):=(Below.refl _ _).drew.trans hb3;have e1:=(HB3.out.cell (p:=⟨g2,1,none⟩) (by exact a0z)).trans q1;have e2:=(HB3.out.cell (p:=⟨g2,2,none⟩) (by exact a0z)).trans q2;have hown3:=ownsRow_below hown2 HB3.out;have hrow3:=ownsRow_below hrow2 HB3.out;have a3Y:=HB3.out.size;have e1a:=past (by show g2<w3.heap.size;omega) e1;have e2a:=past (by show g2<w3.heap.size;omega) e2
 go_wp2_with fail
 clear hH;refine hK.out _ _ ?_ fun hH=>?_
 · ((try dsimp only);go_keep)
 clear hK K;refine tq 9 hH ?_
 try simp only [qq]
 refine rq 10 fun K hK=>?_;go_simp;clear hH;refine hK.out _ _ ?_ fun hH=>?_
 · ((try dsimp only);go_keep)
 clear hK K
 try simp only [qq]
 refine rq 11 fun K hK=>?_;refine Kh rfl (.tmp 31) (.tmp 41) 84 rfl w.heap.size 35 i0 (.agg #[.string ⟨#[]⟩,.string ⟨#[]⟩,.string ⟨#[]⟩]) 3 48 underlying84 hi hz0 hz1 hz2 rfl J3 _ _ _ rfl (hown3.alloc _) ⟨w3.heap.size,0,none⟩ 1 1 [_,_,_] rfl rfl (Ff rfl _ _ _ _) (by intro u hu;simp at hu;rcases hu with rfl | rfl | rfl <;> rfl) (by unfold maxLen;omega) O0 X3 ?_;intro v' w4 zM hgrow;have hB4:=Q0 ((((bT hB2 HB3.out).alloc O0 _).grown hgrow X3 (fun j hj=>(hown3.lt j hj).1)));have hrow4:=Q0 ((hrow3.alloc _).kept hgrow (own_ne hrow3 hown3 J3));have f1:=(cell_grown hgrow (p:=⟨g2,1,none⟩) X3 (fun e=>by have:=(hown.lt _ e.symm).2;simp at this;omega)).trans (e1a _);have f2:=(cell_grown hgrow (p:=⟨g2,2,none⟩) X3 (fun e=>by have:=(hown.lt _ e.symm).2;simp at this;omega)).trans (e2a _);have zN:w3.heap.size+1<=w4.heap.size:=by have:=hgrow.size;simp at this;omega
 clear hgrow;clear hH;refine hK.out _ _ ?_ fun hH=>?_
 · ((try dsimp only);go_keep)
 clear hK K;refine tq 12 hH ?_
 try simp only [qq]
 refine wpAnyH_done I1 ?_ _;clear hH;have HSO:=Q0 (Cb hso.out (by rw [TQ.out];exact hlt) (by rw [TQ.out,HL.out];exact a2j t nX));have HTX:Hid (∀ j,((ms++[(⟨K3 A,K3 B,K3 t⟩:M3)]).getD j X6).le 1048576):=Nb htx.out ⟨by rw [Y2];omega,by rw [Y2];omega,by rw [Y2];omega⟩;go_wp2;go_roundw
 case rel=>
  refine ⟨ms.length+1,ms++[(⟨K3 A,K3 B,K3 t⟩:M3)],O0,by go_num,U0,HSO,HTX,?_,hrow4.out,hB4.out,O0⟩;rw [Ef,List.length_append];exact zM
 case measure=>simp [intOf];omega
end Go.Proofs.YtdpoaadafcaffaaGreatDoor.G
