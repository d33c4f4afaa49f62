import Derived.Test.YtkdbheidpdjimaaGreatDooreQC
import Derived.Test.YtkdbheidpdjimaaGreatDooreYI
import Derived.Test.YtkdbheidpdjimaaGreatDoorqB
set_option linter.unusedVariables false
set_option maxHeartbeats 8000000
set_option maxRecDepth 100000
namespace Go.Proofs.YtkdbheidpdjimaaGreatDoor
open Proofs.Tryz Go.RowKit
variable {S t:List UInt8} {B a base k n p:Nat} {w:World} {v:Value} {rs:List R3} {key:BY} {is:List L4}
theorem DU:∀ n:Fin 16,hx (hexL.getD n.val 0)=(n.val:Int):=O6
theorem WE (n:Nat) (h:n<16):hx (hexL.getD n 0)=n:=DU ⟨n,h⟩
theorem Zq (b:UInt8):-1<=hx b/\hx b<=15:=by
 unfold hx
 (repeat' split) <;> omega
def Kz (S t:List UInt8) (k:Nat):Prop:=∀ l,S=X5 l->∃ r,l=t++r/\S.drop k=r.flatMap qb++[34]
theorem zL (S:List UInt8):Kz S [] 1:=fun l h=>⟨l,rfl,by rw [h];rfl⟩
theorem JV (h:Kz S t k) (hk:S.length<=k+1) (l:List UInt8) (e:S=X5 l):t=l:=by
 obtain ⟨r,h1,h2⟩:=h l e
 cases r with
 | nil=>simpa using h1.symm
 | cons c r=>
  have hq:1<=(qb c).length:=Gt.2 (EK c);have:=P5 List.length h2;simp only [Qj,Pg,N9,A_,Xe] at this;omega
theorem XZ {d:List UInt8} {a b:UInt8} (h:Kz S t k) (hd:S.drop k=92::a::b::d):Kz S (t++[UInt8.ofNat (16*hx a+hx b).toNat]) (k+3):=by
 intro l e;obtain ⟨r,h1,h2⟩:=h l e
 cases r with
 | nil=>rw [hd] at h2;simp at h2
 | cons c r=>
  rw [hd,Pg] at h2;cases hc:N_ c
  · rw [Yf hc] at h2;simp only [Uf,M_,Ci,zy] at h2;obtain ⟨ha,f,hr⟩:=h2;have lc:=Us c;have e1:hx a=(c.toNat / 16:Nat):=by rw [ha];exact WE _ O0
    have i:hx b=(c.toNat % 16:Nat):=by rw [f];exact WE _ O0
    have g:UInt8.ofNat (16*hx a+hx b).toNat=c:=by
     rw [e1,i];apply Ei.1;have:(16*((c.toNat / 16:Nat):Int)+((c.toNat % 16:Nat):Int)).toNat=c.toNat:=O0;rw [this];simp
    refine ⟨r,by rw [h1,g];simp,?_⟩;rw [<- QD,hd];exact hr
  · rw [Jf hc] at h2;simp only [Uf,M_,Ci] at h2;rw [<- h2.1,Sz] at hc;cases hc
theorem DJ {f:List UInt8} {x:UInt8} (h:Kz S t k) (hd:S.drop k=x::f) (i:f≠[])
 (j:∀ a b c q,x=92->f=a::b::c::q->hx a<0\/hx b<0):Kz S (t++[x]) (k+1):=by
 intro l e;obtain ⟨r,h1,h2⟩:=h l e
 cases r with
 | nil=>rw [hd] at h2;simp at h2;exact absurd h2.2 i
 | cons c r=>
  rw [hd,Pg] at h2;cases hc:N_ c
  · rw [Yf hc] at h2;simp only [Uf,M_,Ci] at h2;obtain ⟨g,hr⟩:=h2;exfalso;have lc:=Us c;have e1:=WE (c.toNat / 16) O0;have e2:=WE (c.toNat % 16) O0;rcases hq:r.flatMap qb++[34] with _ | ⟨d,q⟩
    · simp at hq
    · rw [hq] at hr;rcases j _ _ _ _ g hr with h | h <;> omega
  · rw [Jf hc] at h2;simp only [Uf,M_,Ci] at h2;refine ⟨r,by rw [h1,h2.1];simp,?_⟩;rw [<- QD,hd];exact h2.2
theorem lQ (s:BY) (k:Nat) (h:k<s.size):s.data.toList.drop k=s[k]::s.data.toList.drop (k+1):=by
 rw [Xz (by simpa using h)];rfl
theorem lT (a b:UInt8) (h1:0<=hx a) (h2:0<=hx b):((UInt8.ofNat (16*hx a+hx b).toNat).toNat:Int)=16*hx a+hx b:=by
 have:=Zq a;have:=Zq b;simp;omega
theorem zZ {g:Nat} {l:List UInt8} (h:w.ownsRow base 5 1 (.slice (some ⟨g,0,none⟩) l.length a) l.length (Lib.byteCells l)):(convert 243 9 (.slice (some ⟨g,0,none⟩) l.length a)).run prog w=.ok (.string (Y2 l)) w:=by
 have:=run_convert_bytes_arg (P:=prog) w 243 5 underlying243 underlying5 g 0 l.length a (l.map fun b=>(b.toNat:Int)) I4 (fun i c=>by
  rw [E8,h.cellAt i O0];simp [Lib.byteCells,c]) 9 underlying9
 rw [this];have e:l.map ((fun n:Int=>UInt8.ofNat n.toNat)∘fun b=>(b.toNat:Int))=l:=(Wu (fun b _=>I4)).trans (WC l);simp only [strOfNums,xu,e];rfl
theorem Gn {e:TypeId} {size:Nat} {xs:List Value} (h:w.ownsRow base e size v n xs) (hn:0<n):∃ g a,v=.slice (some ⟨g,0,none⟩) n a:=by
 rcases h.2 with ⟨_,h0⟩ | ⟨g,b,cur,hv,_⟩
 · omega
 · exact ⟨g,b,hv⟩
theorem c98 (s:BY) (w:World) (hs:s.size<=1048700):
 Calls prog 98 #[.string s] w fun e w'=>(∃ t,e=.returned (.string (Y2 t))/\t.length<=s.size+1/\∀ l,s.data.toList=X5 l->t=l)/\Bw w w':=by
 obtain ⟨H,L,K,J,I⟩:=info_parts info5;go_enter func98,ntmps98
 go_wp2_with fail
 go_loopw [3,4] (fun v i wr=>∃ (k:Nat) (t:List UInt8),1<=k/\k<=s.size+1/\i=.int .i64 k/\t.length<=k/\wr.ownsRow w.heap.size 5 1 v t.length (Lib.byteCells t)/\Hid (∃ g R,v=.slice (some ⟨g,0,none⟩) t.length R)/\Hid (Kz s.data.toList t k)/\Below w.heap.size w wr/\w.heap.size+1<=wr.heap.size) (fun _ i _=>s.size+1 - (intOf i).toNat)
 case atStart=>exact ⟨1,[],O0,O0,rfl,I4,Ku _ #[] 0 x9 (D5 _) rfl,⟨_,_,rfl⟩,zL _,o7,I4⟩
 case round=>
  obtain ⟨k,t,hk1,hk2,rfl,htk,o,hfm,E,p,hz⟩:=hrel;by_cases Z:k+1<s.size
  · have hlk:k<s.size:=O0;have N:=U0 (lQ s k hlk);have D:=U0 (lQ s (k+1) Z);by_cases B:s[k]=92
    · have e92:((s[k].toNat:Int)==92)=true:=by rw [B];rfl
      by_cases h3:k+3<s.size
      · have hlk2:k+2<s.size:=O0;have S:=U0 (lQ s (k+2) hlk2);have r1:=Zq s[k+1];have r2:=Zq s[k+2];by_cases Y:0<=hx s[k+1]
        · by_cases X:0<=hx s[k+2]
          · have C:=U0 (XZ E.out (by rw [N.out,D.out,S.out,B]));have HB:=U0 (lT _ _ Y X);clear B
            go_wp2_with (go_at_call 149;refine (XL _ _).mono ?_;rintro e F ⟨rfl,n⟩;obtain rfl:=n.symm)
            have W:IntKind.i64.wrap ((k:Int)+1)=((k+1:Nat):Int):=by simp [IntKind.wrap,IntKind.signed,IntKind.bits];omega
            have V:IntKind.i64.wrap ((k:Int)+2)=((k+2:Nat):Int):=by simp [IntKind.wrap,IntKind.signed,IntKind.bits];omega
            have U:IntKind.i64.wrap (16*hx s[k+1])=16*hx s[k+1]:=by simp [IntKind.wrap,IntKind.signed,IntKind.bits];omega
            have P:IntKind.i64.wrap (16*hx s[k+1]+hx s[k+2])=16*hx s[k+1]+hx s[k+2]:=by simp [IntKind.wrap,IntKind.signed,IntKind.bits];omega
            have O:IntKind.u8.wrap (16*hx s[k+1]+hx s[k+2])=16*hx s[k+1]+hx s[k+2]:=by simp [IntKind.wrap,IntKind.signed,IntKind.bits];omega
            have WA:Hid (IntKind.u8.wrap (IntKind.i64.wrap (16*hx s[k+1]+hx s[k+2]))=16*hx s[k+1]+hx s[k+2]):=by rw [P,O];rfl
            have hc1:((k+1:Nat):Int)<(s.size:Int):=O0;have hc2:((k+2:Nat):Int)<(s.size:Int):=O0
            go_region_law (first | (refine Zi rfl (.tmp 40) (.tmp 54) 243 rfl w.heap.size 5 H (.int .u8 0) 1 1 underlying243 L K J I rfl O6 _ _ _ rfl ((o.drew).alloc _) (aW wr 0) 1 1 [_] rfl rfl (cell_one_new _ _ _) (by intro u d;simp at d;subst d;rfl) (by unfold maxLen;omega) O0 U7 ?_;intro v' r x m) | (go_simp;go_wp2_with (go_at_call 149;refine (XL _ _).mono ?_;rintro e F ⟨rfl,n⟩;obtain rfl:=n.symm)))
            all_goals clear W V U P O hc1 hc2
            all_goals go_wp2
            all_goals go_roundw
            all_goals (try (simp [intOf];omega;done))
            all_goals
             have A:=((p.drew).alloc p.size _).grown m U7 (fun j y=>(o.lt j y).1);have f:r.ownsRow w.heap.size 5 1 v' (t++[UInt8.ofNat (16*hx s[k+1]+hx s[k+2]).toNat]).length (Lib.byteCells (t++[UInt8.ofNat (16*hx s[k+1]+hx s[k+2]).toNat])):=by
              rw [T_,N9];rw [show Lib.byteCells [UInt8.ofNat (16*hx s[k+1]+hx s[k+2]).toNat]=[.int .u8 (16*hx s[k+1]+hx s[k+2])] from P5 (fun z:Int=>[Value.int .u8 z]) HB.out];have Q:=x;simp only [show ((k:Int)+2).toNat=k+2 by omega,WA.out] at Q;exact Q
             exact ⟨k+3,_,O0,O0,by go_num,U7,f,Gn f I4,C,A,by have:=m.size;simp at this;omega⟩
          · have C:=U0 (DJ E.out (by rw [N.out]) (by rw [D.out];simp) (fun a b c q _ h=>.inr (by rw [D.out,S.out] at h;injection h with _ h;injection h with h _;rw [<- h];omega)));clear B
            go_wp2_with (first | (go_at_call 149;refine (XL _ _).mono ?_;rintro e F ⟨rfl,n⟩;obtain rfl:=n.symm) | (at_builtin;refine wpList_append_own _ rfl _ _ 243 rfl w.heap.size 5 H (.int .u8 0) 1 1 underlying243 L K J I rfl O6 _ _ _ rfl (o.alloc _) ⟨wr.heap.size,0,none⟩ 1 1 [_] rfl rfl (cell_one_new _ _ _) (by intro u d;simp at d;subst d;rfl) (by unfold maxLen;omega) O0 U7 ?_;intro v' r x m _))
            go_roundw
            case rel=>
             have A:=(p.alloc p.size _).grown m U7 (fun j y=>(o.lt j y).1);have f:r.ownsRow w.heap.size 5 1 v' (t++[s[k]]).length (Lib.byteCells (t++[s[k]])):=by rw [T_,N9];exact x
             exact ⟨k+1,t++[s[k]],O0,O0,by go_num,U7,f,Gn f I4,C,A,by have:=m.size;simp at this;omega⟩
            case measure=>simp [intOf];omega
        · have C:=U0 (DJ E.out (by rw [N.out]) (by rw [D.out];simp) (fun a b c q _ h=>.inl (by rw [D.out] at h;injection h with h _;rw [<- h];omega)));clear B
          go_wp2_with (first | (go_at_call 149;refine (XL _ _).mono ?_;rintro e F ⟨rfl,n⟩;obtain rfl:=n.symm) | (at_builtin;refine wpList_append_own _ rfl _ _ 243 rfl w.heap.size 5 H (.int .u8 0) 1 1 underlying243 L K J I rfl O6 _ _ _ rfl (o.alloc _) ⟨wr.heap.size,0,none⟩ 1 1 [_] rfl rfl (cell_one_new _ _ _) (by intro u d;simp at d;subst d;rfl) (by unfold maxLen;omega) O0 U7 ?_;intro v' r x m _))
          go_roundw
          case rel=>
           have A:=(p.alloc p.size _).grown m U7 (fun j y=>(o.lt j y).1);have f:r.ownsRow w.heap.size 5 1 v' (t++[s[k]]).length (Lib.byteCells (t++[s[k]])):=by rw [T_,N9];exact x
           exact ⟨k+1,t++[s[k]],O0,O0,by go_num,U7,f,Gn f I4,C,A,by have:=m.size;simp at this;omega⟩
          case measure=>simp [intOf];omega
      · have C:=U0 (DJ E.out (by rw [N.out]) (by rw [D.out];simp) (fun a b c q _ h=>by have hh:=P5 List.length h;simp at hh;omega));clear B
        go_wp2_with (first | (go_at_call 149;refine (XL _ _).mono ?_;rintro e F ⟨rfl,n⟩;obtain rfl:=n.symm) | (at_builtin;refine wpList_append_own _ rfl _ _ 243 rfl w.heap.size 5 H (.int .u8 0) 1 1 underlying243 L K J I rfl O6 _ _ _ rfl (o.alloc _) ⟨wr.heap.size,0,none⟩ 1 1 [_] rfl rfl (cell_one_new _ _ _) (by intro u d;simp at d;subst d;rfl) (by unfold maxLen;omega) O0 U7 ?_;intro v' r x m _))
        go_roundw
        case rel=>
         have A:=(p.alloc p.size _).grown m U7 (fun j y=>(o.lt j y).1);have f:r.ownsRow w.heap.size 5 1 v' (t++[s[k]]).length (Lib.byteCells (t++[s[k]])):=by rw [T_,N9];exact x
         exact ⟨k+1,t++[s[k]],O0,O0,by go_num,U7,f,Gn f I4,C,A,by have:=m.size;simp at this;omega⟩
        case measure=>simp [intOf];omega
    · have e92:((s[k].toNat:Int)==92)=false:=by
       simp only [n_];intro e;exact B (Ei.1 (by
        have:s[k].toNat=92:=O0;rw [this];rfl))
      have C:=U0 (DJ E.out (by rw [N.out]) (by rw [D.out];simp) (fun a b c q h _=>absurd h B));clear B
      go_wp2_with (first | (go_at_call 149;refine (XL _ _).mono ?_;rintro e F ⟨rfl,n⟩;obtain rfl:=n.symm) | (at_builtin;refine wpList_append_own _ rfl _ _ 243 rfl w.heap.size 5 H (.int .u8 0) 1 1 underlying243 L K J I rfl O6 _ _ _ rfl (o.alloc _) ⟨wr.heap.size,0,none⟩ 1 1 [_] rfl rfl (cell_one_new _ _ _) (by intro u d;simp at d;subst d;rfl) (by unfold maxLen;omega) O0 U7 ?_;intro v' r x m _))
      go_roundw
      case rel=>
       have A:=(p.alloc p.size _).grown m U7 (fun j y=>(o.lt j y).1);have f:r.ownsRow w.heap.size 5 1 v' (t++[s[k]]).length (Lib.byteCells (t++[s[k]])):=by rw [T_,N9];exact x
       exact ⟨k+1,t++[s[k]],O0,O0,by go_num,U7,f,Gn f I4,C,A,by have:=m.size;simp at this;omega⟩
      case measure=>simp [intOf];omega
  · have HE:=U0 (JV E.out U7);have HL:Hid (t.length<=s.size+1):=by show t.length<=s.size+1;omega
    obtain ⟨g,R,hv⟩:=hfm.out;subst hv;have hcv:=zZ o;go_wp2;go_ret;exact ⟨⟨t,rfl,HL.out,HE.out⟩,p⟩
open Go.RowKit Go.Maps
theorem aV (h:k<(Jw rs key).length):∃ p:Nat,(Jw rs key).getD k 0=(p:Int)/\p<rs.length/\(rs.getD p g_).key=key:=by
 unfold Jw at h ⊢;rw [Lc] at h;have hm:=Bj h;refine ⟨_,?_,Gs.1 (Pv.1 hm).1,by simpa using (Pv.1 hm).2⟩;rw [Pj,Zr,y9 h];rfl
theorem KT (b:p<rs.length) (d:(rs.getD p g_).key=key):∃ k,k<(Jw rs key).length/\(Jw rs key).getD k 0=(p:Int):=by
 unfold Jw;have hm:p∈(List.range rs.length).filter fun i=>decide ((rs.getD i g_).key=key):=Pv.2 ⟨Gs.2 b,by simpa using d⟩;obtain ⟨k,a,c⟩:=Ee hm;refine ⟨k,by rw [Lc];exact a,?_⟩;rw [Pj,Zr,y9 a,c];rfl
theorem TM (a:p<rs.length):rs.getD p g_∈rs:=by
 have:rs.getD p g_=rs[p]:=by simp [List.getD,y9 a]
 rw [this];exact Bj a
theorem OL {x:R3} (h:x∈rs):∃ p,p<rs.length/\rs.getD p g_=x:=by
 obtain ⟨p,a,e⟩:=Ee h;exact ⟨p,a,by simp [List.getD,y9 a,e]⟩
theorem WI {va:OA} {zs:List Int} (h:w.ownsInts B 3 .i64 (.slice va n a) zs):n=zs.length/\(n=0\/∃ g,va=some ⟨g,0,none⟩/\g<w.heap.size/\∀ k,k<n->w.cell? ⟨g,k,none⟩=some (.int .i64 (zs.getD k 0))):=by
 have b:=h.1;rcases h.1.2 with ⟨hv,h0⟩ | ⟨g,cap,cur,hv,hg,d,_⟩
 · simp at hv;exact ⟨O0,.inl O0⟩
 · simp only [Gy] at hv;obtain ⟨rfl,rfl,rfl⟩:=hv;refine ⟨rfl,.inr ⟨g,rfl,(D_.1 d).1,fun k c=>?_⟩⟩;rw [b.cellAt k O0];simp [List.getD,y9 c]
theorem a1H (B H bT bR bP:Nat) (W:Int) (l:List (ByteArray×Value)) (rs:List R3) (rv:List Value) (x:R3) (a:OA) (c:Nat) (w:World) (hSh:Sh B H bT bR bP W l rs rv w) (hx:Z_ w a x.gs) (hn:rs.length<=1000) (hk:x.key.size<=1048700) (hg:x.gs.length<=1048576) (hgs:∀ i,(rs.getD i g_).gs.length<=1048576):
 Calls prog 180 #[.pointer (some ⟨H,0,none⟩),.agg #[.string x.key,.slice a x.gs.length c,.string x.out]] w fun e w'=>Rb (x∈rs) e/\Bw w w':=by
 obtain ⟨pl,hC,hR⟩:=hSh;have hrl:=hR.len;have a4C:=hC.lt;obtain ⟨v,hv⟩:∃ v,(X_ pl x.key).getD (.slice none 0 0)=v:=⟨_,rfl⟩;have t:=ints_at hR hv (Z4 _ _);obtain ⟨va,vc,Q⟩:=U9 t.1;rw [Q] at t hv;obtain ⟨_,hcs⟩:=WI t;have HCS:=U0 hcs;have hln:(Jw rs x.key).length<=1000:=Q7 (yE _ _) hn;obtain ⟨es,N,J,hpF,Z,hpD⟩:=hC.pc;obtain ⟨A,C,I,U,R,V⟩:=hC.rc;have hbP:=(D_.1 J).1;have hbR:=(D_.1 I).1;have hkm:x.key.size<=maxLen:=by unfold maxLen;omega
 have HLK:Hid (∀ u:World,u.heap[bP]?=some (.map es N)->(Instr.lookup 186 (.map (some bP)) (.string x.key) false).run prog u=.ok (.slice va (Jw rs x.key).length vc) u):=fun u q=>by
  rw [<- hv];exact oI (n:=pl.length) ⟨es,N,q,hpF,Z,hpD⟩ underlying186 J3 hkm
 have HLA:Hid (∀ (u:World) (p:Nat),p<rs.length->u.heap[bR]?=some (.map A C)->(Instr.lookup 185 (.map (some bR)) (.int .i64 p) false).run prog u=.ok (rv.getD p undef) u):=fun u p o q=>
  pO (n:=rv.length) (z:=.agg #[.string ⟨#[]⟩,.slice none 0 0,.string ⟨#[]⟩]) ⟨A,C,q,U,R,V⟩ underlying185 J3 O0 O0
 have HRC:=U0 hR.recs;have d:Bw w (w.alloc (.cells #[.string x.key,.slice a x.gs.length c,.string x.out] 113)):=o7;have sz0:(w.alloc (.cells #[.string x.key,.slice a x.gs.length c,.string x.out] 113)).heap.size=w.heap.size+1:=I4;have hp0:=(d.block bP hbP).trans J;have X:=(d.block bR hbR).trans I;have D:Hid (X4 (w.alloc (.cells #[.string x.key,.slice a x.gs.length c,.string x.out] 113)) w.heap.size [.string x.key,.slice a x.gs.length c,.string x.out]):=U0 (I5 w [.string x.key,.slice a x.gs.length c,.string x.out] 113);have f2:=(hC.below d).blk 2 _ rfl;have f3:=(hC.below d).blk 3 _ rfl;have e0:=D.out 0 _ rfl;have e1:=D.out 1 _ rfl;have e2:=D.out 2 _ rfl;have HX:=U0 (O8 hx d);have HW:=U0 d;clear hC hR hx hv Q t J hpF Z hpD I U R V hcs hrl D;go_enter func180,ntmps180
 go_wp2_with fail
 generalize (w.alloc (.cells #[.string x.key,.slice a x.gs.length c,.string x.out] 113))=b at*;refine wp_region_held_drew (S:=(fun u=>u.cell? ⟨H,3,none⟩=some (.map (some bP))/\u.cell? ⟨w.heap.size,0,none⟩=some (.string x.key)/\u.heap[bP]?=some (.map es N))) J3 ?_ fun hHeld=>?_
 · exact ⟨f3,e0,hp0⟩
 refine Y0 0 ?_;refine Y0 1 ?_;refine Y0 2 ?_;refine Y0 3 ?_;refine Y0 4 ?_;refine Y0 5 ?_;refine tq 6 hHeld ?_ (v:=?_) (hv:=?e)
 case e=>intro wq hSw;(try dsimp only at hSw);have hq:=HLK.out wq hSw.2.2;go_simp;try with_reducible rfl
 try simp only [qq]
 refine Y0 7 ?_;refine Y0 8 ?_;refine wdn ?_
 go_wp2_with fail
 go_loopw [15] (fun i wr=>∃ (k:Nat),k<=(Jw rs x.key).length/\i=.int .i64 k/\Hid (∀ j,j<k->rs.getD ((Jw rs x.key).getD j 0).toNat g_≠x)/\Below b.heap.size b wr) (fun i _=>(Jw rs x.key).length - (Go.RowKit.intOf i).toNat)
 case atStart=>exact ⟨0,D5 _,rfl,fun j r=>absurd r (o9 _),(Z4 _ _).drew⟩
 case round=>
  obtain ⟨k,hk,rfl,HJ,s⟩:=hrel;by_cases hlt:k<(Jw rs x.key).length
  · rcases HCS.out with h0 | ⟨g,hva,hgw,hcell⟩
    · omega
    subst hva;obtain ⟨p,O,o,hkp⟩:=aV hlt;have ck0:=(s.cell (p:=⟨g,k,none⟩) (show g<b.heap.size by omega)).trans ((d.cell (p:=⟨g,k,none⟩) hgw).trans (hcell k hlt));rw [O] at ck0;obtain ⟨a2,c2,F,L,_⟩:=HRC.out p o;have P:=hgs p;obtain ⟨y,E⟩:∃ y,rs.getD p g_=y:=⟨_,rfl⟩;rw [E] at F L P;have HY:=U0 E;clear E;have HLR:Hid (∀ u:World,u.heap[bR]?=some (.map A C)->(Instr.lookup 185 (.map (some bR)) (.int .i64 p) false).run prog u=.ok (.agg #[.string y.key,.slice a2 y.gs.length c2,.string y.out]) u):=fun u q=>by
     rw [<- F];exact HLA.out u p o q
    have f:=s.drew;have q2:=(f.cell (p:=⟨H,2,none⟩) (show H<b.heap.size by omega)).trans f2;have y0:=(f.cell (p:=⟨w.heap.size,0,none⟩) (show w.heap.size<b.heap.size by omega)).trans e0;have y1:=(f.cell (p:=⟨w.heap.size,1,none⟩) (show w.heap.size<b.heap.size by omega)).trans e1;have y2:=(f.cell (p:=⟨w.heap.size,2,none⟩) (show w.heap.size<b.heap.size by omega)).trans e2;have hpr:=(f.block bR (show bR<b.heap.size by omega)).trans X;have G2:=O8 L (HW.out.trans (f.mono O0));have GX:=O8 HX.out f;clear hcell L F
    go_wp2_with fail
    refine wp_region_held_drew (S:=(fun u=>u.cell? ⟨H,2,none⟩=some (.map (some bR))/\u.cell? ⟨w.heap.size,0,none⟩=some (.string x.key)/\u.cell? ⟨w.heap.size,1,none⟩=some (.slice a x.gs.length c)/\u.cell? ⟨w.heap.size,2,none⟩=some (.string x.out)/\u.heap[bR]?=some (.map A C))) J3 ?_ fun hHeld=>?_
    · exact ⟨q2,y0,y1,y2,hpr⟩
    refine Y0 0 ?_;refine Y0 1 ?_;refine Y0 2 ?_;refine Y0 3 ?_;refine Y0 4 ?_;refine tq 5 hHeld ?_ (v:=?_) (hv:=?e)
    case e=>intro wq hSw;(try dsimp only at hSw);have hq:=HLR.out wq hSw.2.2.2.2;go_simp;try with_reducible rfl
    try simp only [qq]
    refine Y0 6 ?_;refine rq 7 fun K hK=>?_;go_simp;refine (a0w y x a2 a c2 c _ P hg G2 GX).mono ?_;rintro e u1 ⟨⟨bb,rfl,hbb⟩,hb1⟩
    go_wp2_with fail
    have m:=f.trans (hb1.mono (by show b.heap.size<=wr.heap.size;exact s.size));have p2:=(m.cell (p:=⟨H,2,none⟩) (show H<b.heap.size by omega)).trans f2;have p0:=(m.cell (p:=⟨w.heap.size,0,none⟩) (show w.heap.size<b.heap.size by omega)).trans e0;have p1:=(m.cell (p:=⟨w.heap.size,1,none⟩) (show w.heap.size<b.heap.size by omega)).trans e1;have p3:=(m.cell (p:=⟨w.heap.size,2,none⟩) (show w.heap.size<b.heap.size by omega)).trans e2;have pr:=(m.block bR (show bR<b.heap.size by omega)).trans X;clear hHeld;refine J8 hK ⟨p2,p0,p1,p3,pr⟩ fun hHeld=>?_;clear hK K hHeld;refine wdn ?_;cases bb
    · go_wp2;go_roundw
      case rel=>exact ⟨k+1,O0,by go_num,fun j r=>by
       rcases o8 j k with h | h
       · exact HJ.out j h
       · obtain rfl:j=k:=O0;rw [O];exact fun e=>absurd (hbb.2 (HY.out.symm.trans e)) Ql,m⟩
      case measure=>simp [Go.RowKit.intOf];omega
    · go_wp2;go_ret;exact ⟨⟨true,rfl,fun _=>(HY.out.trans (by simpa using hbb))▸TM o,fun _=>rfl⟩,d.trans (m.mono O0)⟩
  · obtain rfl:k=(Jw rs x.key).length:=O0;go_wp2;go_ret;refine ⟨⟨false,rfl,fun h=>absurd h Ql,fun h=>?_⟩,d.trans (s.mono O0)⟩;obtain ⟨p,o,Y⟩:=OL h;obtain ⟨j,r,hjp⟩:=KT o (by rw [Y]);have:=HJ.out j r;rw [hjp] at this;exact absurd Y this
def FH (is:List L4):List Value:=is.flatMap fun x=>[.bool x.has,.string x.nm,.int .i64 x.cd,.string x.tx]
theorem TT (is:List L4):(FH is).length=is.length*4:=by
 induction is with
 | nil=>rfl
 | cons x is ih=>
  show ([_,_,_,_]++FH is).length=_;rw [N9,ih];simp;omega
theorem nT (is:List L4):∀ i,i<is.length->(FH is)[i*4]?=some (.bool (is.getD i O_).has)/\(FH is)[i*4+1]?=some (.string (is.getD i O_).nm)/\(FH is)[i*4+2]?=some (.int .i64 (is.getD i O_).cd)/\(FH is)[i*4+3]?=some (.string (is.getD i O_).tx):=by
 induction is with
 | nil=>intro i h;exact absurd h (o9 _)
 | cons x is ih=>
  intro i h
  cases i with
  | zero=>exact ⟨rfl,rfl,rfl,rfl⟩
  | succ i=>
   have a:i<is.length:=by simpa using h
   have k:=ih i a;have e:∀ j,(FH (x::is))[(i+1)*4+j]?=(FH is)[i*4+j]?:=fun j=>by
    show ([_,_,_,_]++FH is)[(i+1)*4+j]?=_;rw [Cf U7]
    congr 1
    simp;omega
   have e0:=e 0;simp only [Zo] at e0;rw [e0,e 1,e 2,e 3];simpa using k
structure Eg (w:World) (B:Nat) (ao:OA) (is:List L4):Prop where
 at':I9 w ao is
 own:is=[]\/∃ g,ao=some ⟨g,0,none⟩/\B<=g/\dA w g is.length
theorem kK (h:w.ownsRow B 167 4 v n (FH is)) (f:n=is.length):∃ ao c,v=.slice ao n c/\Eg w B ao is:=by
 subst f;have a:=h;obtain ⟨h1,h2⟩:=h;rcases h2 with ⟨rfl,h0⟩ | ⟨g,p,cur,rfl,o,m,_⟩
 · have e:is=[]:=Ya.1 h0;subst e;exact ⟨none,0,rfl,.inl rfl,.inl rfl⟩
 · have b:g<w.heap.size:=Zf m;refine ⟨some (aA g 0),p,rfl,.inr ⟨g,0,rfl,b,fun i l=>?_⟩,.inr ⟨g,rfl,o,b,fun j d=>?_,fun j=>a.frozenAt j⟩⟩
   · have k:=nT is i l;simp only [E8];rw [a.cellAt _ O0,a.cellAt _ O0,a.cellAt _ O0,a.cellAt _ O0];exact k
   · rw [a.cellAt j d];have:j<(FH is).length:=by rw [TT];exact d
     exact ⟨_,y9 this⟩
theorem Eg.mono {B':Nat} {ao:OA} (h:Eg w B ao is) (hB:B'<=B):Eg w B' ao is:=
 ⟨h.at',h.own.imp id fun ⟨g,h1,h2,a⟩=>⟨g,h1,Q7 hB h2,a⟩⟩
def mG (x:T.F2):List Value:=[.string x.nm,.string x.tx]
def kM (w:World) (a:OA) (is:List T.F2):Prop:=TA w a is T.P8 2 fun w b o x=>Bc w b o (mG x)
theorem zW {a:OA} {is:List T.F2} (h:T.J6 w a is):kM w a is:=by
 rcases h with h | ⟨b,off,h1,h2,d⟩
 · exact .inl h
 refine .inr ⟨b,off,h1,h2,fun i c q v e=>?_⟩
 match q,e with
 | 0,e=>cases e;exact (d i c).1
 | 1,e=>cases e;exact (d i c).2
theorem iZ {a:OA} {is:List T.F2} (h:kM w a is):T.J6 w a is:=by
 rcases h with h | ⟨b,off,h1,h2,d⟩
 · exact .inl h
 exact .inr ⟨b,off,h1,h2,fun i c=>⟨d i c 0 _ rfl,d i c 1 _ rfl⟩⟩
theorem c91 (x:T.F2) (l:Int) (w:World) (h0:0<=l) (h1:l<=1048576) (a:x.le 9223372036854775807):
 Calls prog 91 #[.agg #[.string x.nm,.string x.tx],.int .i64 l] w fun e w'=>(∃ r:Int,e=.returned (.int .i64 r)/\(0<=r->x.le 1048576/\r<=l))/\Bw w w':=by
 obtain ⟨s1,s2⟩:=a;by_cases h':l<x.nm.size
 · go_enter func91,ntmps91;go_wp2;go_ret;exact ⟨⟨-1,rfl,fun h=>O0⟩,o7⟩
 by_cases h2:l - x.nm.size<x.tx.size
 · go_enter func91,ntmps91;go_wp2;go_ret;exact ⟨⟨-1,rfl,fun h=>O0⟩,o7⟩
 · go_enter func91,ntmps91;go_wp2;go_ret;exact ⟨⟨_,rfl,fun h=>⟨⟨O0,O0⟩,O0⟩⟩,o7⟩
theorem c50 (a:OA) (C:Nat) (is:List T.F2) (l:Int) (w:World) (h0:0<=l) (h1:l<=1048576) (o:∀ i,(is.getD i T.P8).le 9223372036854775807) (hl:is.length<=9223372036854775807) (q:kM w a is):
 Calls prog 50 #[.slice a is.length C,.int .i64 l] w fun e w'=>(∃ r:Int,e=.returned (.int .i64 r)/\(0<=r->is.length<=1048576/\(∀ i,(is.getD i T.P8).le 1048576)/\r<=1048576))/\Bw w w':=by
 obtain ⟨b,off,hc⟩:=P_ q;have F:=U0 hc;have E:=U0 o;clear hc q o;by_cases hbig:l<is.length
 · go_enter func50,ntmps50;go_wp2;go_ret;exact ⟨⟨-1,rfl,fun h=>O0⟩,Z4 _ _⟩
 go_enter func50,ntmps50
 go_wp2_with fail
 go_loopw [1,5] (fun v i wr=>∃ (k:Nat) (r:Int),k<=is.length/\i=.int .i64 k/\v=.int .i64 r/\0<=r/\r<=1048576/\Hid (∀ i,i<k->(is.getD i T.P8).le 1048576)/\Below w.heap.size w wr) (fun _ i _=>is.length - (intOf i).toNat)
 case atStart=>exact ⟨0,_,D5 _,rfl,rfl,O0,O0,fun i h=>absurd h (o9 _),Z4 _ _⟩
 case round=>
  obtain ⟨k,r,hk,rfl,rfl,A,z,n,c⟩:=hrel;by_cases j:k<is.length;rotate_left
  · have f:Hid (∀ i,(is.getD i T.P8).le 1048576):=U0 (MR (is:=is) (d:=T.P8) (R:=fun x=>x.le 1048576) ⟨O6,O6⟩ (fun i h=>n.out i O0));go_wp2;go_ret;exact ⟨⟨r,rfl,fun _=>⟨O0,f.out,z⟩⟩,c⟩
  obtain ⟨ha,p,m⟩:=Nc F.out j;subst ha;have g0:=((m k j).below p c) 0 _ rfl;have g1:=((m k j).below p c) 1 _ rfl;dsimp only [Nat.add_zero] at g0;have y:=E.out k;generalize hx:is.getD k T.P8=x at*;have D:Hid (is.getD k T.P8=x):=hx;clear hx m
  go_wp2_with fail
  refine (c91 x r wr A O0 y).mono ?_;rintro e t ⟨⟨u,rfl,hr⟩,B⟩;have s:Bw w t:=G7 c B;by_cases hneg:u<0
  · clear hr;go_wp2;go_ret;exact ⟨⟨-1,rfl,fun h=>O0⟩,s⟩
  have g:=hr O0;have f:Hid (∀ i,i<k+1->(is.getD i T.P8).le 1048576):=by
   intro i h;rcases o8 i k with h1 | h1
   · exact n.out i h1
   · obtain rfl:i=k:=O0;rw [D.out];exact g.1
  have hr2:=g.2;clear hr g;go_wp2;go_roundw
  case rel=>exact ⟨k+1,_,O0,by go_num,rfl,O0,O0,f,s⟩
  case measure=>simp [intOf];omega
theorem c10 (a:OA) (b:Nat) (is:List T.F2) (l:Int) (w:World) (h0:0<=l) (h1:l<=1048576) (c:∀ i,(is.getD i T.P8).le 9223372036854775807) (hl:is.length<=9223372036854775807) (f:T.J6 w a is):
 Calls prog 10 #[.agg #[.slice a is.length b],.int .i64 l] w fun e w'=>(∃ r:Int,e=.returned (.int .i64 r)/\(0<=r->is.length<=1048576/\(∀ i,(is.getD i T.P8).le 1048576)/\r<=1048576))/\Bw w w':=by
 have hc:=c50 a b is l _ h0 h1 c hl (zW (T.U5 f (o7 (o:=.cells #[vL a is.length b] 27))));clear c f;go_enter func10,ntmps10
 go_wp2_with fail
 refine hc.mono ?_;rintro e w1 ⟨⟨r,rfl,hr⟩,d⟩;have j:=U0 hr;have g:=U0 (G7 o7 d);clear hc hr d;by_cases hn:r<0
 · go_wp2;go_ret;exact ⟨⟨-1,rfl,fun h=>O0⟩,g.out⟩
 go_wp2;go_ret;exact ⟨⟨_,rfl,j.out⟩,g.out⟩
theorem c107 (x:T.F2) (w:World):
 Calls prog 107 #[.agg #[.string x.nm,.string x.tx]] w fun e w'=>e=.returned (.agg #[.string x.nm,.string x.tx])/\Bw w w':=by
 go_enter func107,ntmps107;go_wp2;refine P7 (v:=.agg #[vS x.nm,vS x.tx]) (by simp [results,results107,go_sem]) rfl ⟨rfl,?_⟩;exact ((o7.alloc I4 _).alloc U7 _)
theorem c62 (a:OA) (N:Nat) (is:List T.F2) (w:World) (hl:is.length<=1048576) (y:kM w a is):
 Calls prog 62 #[.slice a is.length N] w fun e w'=>(∃ v,e=.returned v/\Et w.heap.size w' kM is v)/\Bw w w':=by
 obtain ⟨b,off,hc⟩:=P_ y;have U:=U0 hc;clear hc y;obtain ⟨E,l,I,H,F⟩:=info_parts (show (prog.info? 99).map (fun i=>(i.zero,i.size,i.bytes))=some (some (.agg #[vE,vE]),2,32) from J3);have hmk:∀ u:World,(Instr.makeSlice 39 (vI (is.length:Int)) (vI (is.length:Int))).run prog u=
  .ok (vL (some (aW u 0)) is.length is.length) (u.alloc (.cells (zs [vE,vE] is.length).toArray 99)):=fun u=>by
  have h:=Vm (P:=prog) u 39 99 E (.agg #[vE,vE]) underlying39 l I .i64 .i64 (is.length:Int) (is.length:Int) O0 (Ak _) (by rw [F];omega) O0;rw [<- Am];simpa [H,Value.cells] using h
 go_enter func62,ntmps62
 go_wp2_with fail
 go_loopw [4] (fun i wr=>∃ (k:Nat),k<=is.length/\i=.int .i64 k/\Below w.heap.size w wr/\Hid (Cl wr w.heap.size 99 ((is.take k).flatMap mG++zs [.string ⟨#[]⟩,.string ⟨#[]⟩] (is.length - k)))) (fun i _=>is.length - (intOf i).toNat)
 case atStart=>exact ⟨0,D5 _,rfl,o7,by show Cl _ _ _ _;simp only [Zz,Kq,M_,Rq];exact G6 _ _ _⟩
 case round=>
  obtain ⟨k,J,rfl,g,hc⟩:=hrel;by_cases c:k<is.length;rotate_left
  · have hd:Hid (Et w.heap.size wr kM is (vL (some (aW w 0)) is.length is.length)):=by
     obtain rfl:k=is.length:=O0;have h:=hc.out;rw [Uj,Um] at h;exact ⟨_,_,rfl,Y9 _,(LJ h x9).imp (fun u r=>.inr ⟨w.heap.size,0,rfl,r.lt,fun i l=>qH r (fun q v e=>by rw [E8,I_ (by have:=Jc (f:=mG) (m:=2) (fun _=>rfl) is;have:=(Nj.1 e).1;simp [mG] at this;omega)];exact Si (f:=mG) (m:=2) (d:=T.P8) (fun _=>rfl) is i l q v e)⟩)⟩
    go_wp2;go_ret;exact ⟨⟨_,rfl,hd.out⟩,g⟩
  obtain ⟨ha,s,o⟩:=Nc U.out c;subst ha;have g0:=((o k c).below s g) 0 _ rfl;have g1:=((o k c).below s g) 1 _ rfl;dsimp only [Nat.add_zero] at g0;have K:=U0 (Gm (d:=T.P8) (f:=mG) c);generalize is.getD k T.P8=x at*;clear o
  go_wp2_with fail
  refine (c107 x wr).mono ?_;rintro e C ⟨rfl,t⟩;have L:Bw w C:=G7 g t;have S:=U0 (hc.out.below t hc.out.lt);have p:Hid (((is.take k).flatMap mG).length=k*([vE,vE]:List Value).length):=by show _=_;rw [Jc (m:=2) (fun _=>rfl),B_,Vk J];rfl
  have R:=U0 (Du (z:=[vE,vE]) (vs:=mG x) (n:=is.length) p.out rfl c);have V:Hid (∀ v∈mG x,v.oneCell'=true):=by intro v hv;simp [mG] at hv;rcases hv with rfl|rfl<;>rfl
  have Q:Hid (∀ z,Cl z w.heap.size 99 (Zp ((is.take k).flatMap mG++zs [vE,vE] (is.length - k)) (k*2) (mG x))->Cl z w.heap.size 99 ((is.take (k+1)).flatMap mG++zs [vE,vE] (is.length - (k+1)))):=fun z h=>by rw [K.out,<- au (z:=[vE,vE]) (vs:=mG x) p.out rfl c];exact h
  go_wp2_with (refine Z8 rfl 99 _ _ rfl (B:=w.heap.size) (j:=k*2) rfl (vs:=mG x) rfl S.out R.out V.out J3 ?_;intro z A D;have W:=U0 (Q.out z A);have O:=L.trans (D.below x9);clear A)
  go_roundw
  case rel=>exact ⟨k+1,O0,by go_num,O,W⟩
  case measure=>simp [intOf];omega
structure TB (w:World) (ta tr:TypeId) (ar zs xs:List Value) (P:World->Prop) (V:World):Prop where
 bel:Bw w V
 sz:w.heap.size+3<=V.heap.size
 ca:Cl V w.heap.size ta ar
 cr:Cl V (w.heap.size+1) tr zs
 co:Cl V (w.heap.size+1+1) tr xs
 kp:Kp (w.heap.size+3) V P
section
variable {w V V1:World} {ta tr:TypeId} {ar zs xs xs':List Value} {P Q:World->Prop}
theorem Aj:TB w ta tr ar zs zs (fun _=>True) (((w.alloc (.cells ar.toArray ta)).alloc (.cells zs.toArray tr)).alloc (.cells zs.toArray tr)):=
 ⟨(o7.alloc I4 _).alloc U7 _,I4,Oa (Oa (G6 w ar ta) _) _,Oa (by have h:=G6 (w.alloc (.cells ar.toArray ta)) zs tr;simpa using h) _,by have h:=G6 ((w.alloc (.cells ar.toArray ta)).alloc (.cells zs.toArray tr)) zs tr;simpa using h,fun _ _ _=>trivial⟩
theorem TB.put (h:TB w ta tr ar zs xs P V) (j:Nat) (v:Value):TB w ta tr ar zs (xs.set j v) P (V.setCell ⟨w.heap.size+1+1,j,none⟩ v):=
 have o:=uh V (w.heap.size+1+1) j v
 ⟨h.bel.trans (o.below O0),by have:=h.sz;have:=o.size;omega,h.ca.on o O0,h.cr.on o O0,h.co.set j v,h.kp.on o O0⟩
theorem TB.on (h:TB w ta tr ar zs xs P V) (o:vF (w.heap.size+1+1) V V1) (c:Cl V1 (w.heap.size+1+1) tr xs'):TB w ta tr ar zs xs' P V1:=
 ⟨h.bel.trans (o.below O0),by have:=h.sz;have:=o.size;omega,h.ca.on o O0,h.cr.on o O0,c,h.kp.on o O0⟩
theorem TB.call (h:TB w ta tr ar zs xs P V) (a:Bw V V1) (b:Kp V.heap.size V1 Q):TB w ta tr ar zs xs (fun u=>P u/\Q u) V1:=
 ⟨G7 h.bel a,Q7 h.sz a.size,h.ca.below a h.ca.lt,h.cr.below a h.cr.lt,h.co.below a h.co.lt,fun u h1 h2=>⟨h.kp.below a u h1 h2,b.low h.sz u h1 h2⟩⟩
theorem TB.end_ {z:World} (h:TB w ta tr ar zs xs P V) (o:vF (w.heap.size+1) V z):Kp w.heap.size z P/\Bw w z:=⟨(h.kp.on o O0).low O0,h.bel.trans (o.below O0)⟩
end
theorem c28 (a:OA) (i:Nat) (is:List T.F2) (w:World) (hl:is.length<=1048576) (n:T.J6 w a is):
 Calls prog 28 #[.agg #[.slice a is.length i]] w fun e w'=>(∃ a c,e=.returned (.agg #[.slice a is.length c])/\Kp w.heap.size w' fun u=>T.J6 u a is)/\Bw w w':=by
 have y:=U0 n;clear n;go_enter func28,ntmps28
 go_upto_region 2 with fail
 have m:=U0 (Aj (w:=w) (ta:=27) (tr:=41) (ar:=[vL a is.length i]) (zs:=[vN]));generalize ((w.alloc (.cells #[vL a is.length i] 27)).alloc (.cells #[vN] 41)).alloc (.cells #[vN] 41)=t at*;have o:=m.out.ca.cell 0;simp only [@gz Value] at o
 go_wp2_with fail
 clear o;refine (c62 a i is t hl (zW (T.U5 y.out m.out.bel))).mono ?_;rintro e V1 ⟨⟨_,rfl,d,b,rfl,hq1,f⟩,g⟩;have l:=U0 (m.out.call g (f));clear g f m;have o1:=l.out.co.cell 0;have r:=l.out.co.opn 0;simp only [@gz Value] at o1
 go_upto_region 3 with fail
 clear o1 r;have k:=U0 (l.out.put 0 (vL d is.length b));dsimp only [List.set_cons_zero,List.set_cons_succ] at k;generalize V1.setCell ⟨w.heap.size+1+1,0,none⟩ (vL d is.length b)=V2 at*;clear l;have x:Hid (∀ v∈([vL d is.length b]:List Value),v.oneCell'=true):=by intro v hv;simp at hv;rcases hv with rfl<;>rfl
 go_wp2_with (first | (refine Z9 rfl (Y8 41 _ rfl (B:=w.heap.size+1+1) (j:=0) (cs:=[vL d is.length b]) rfl (fun q v e=>by rw [E8];exact (k.out.co.cell q).trans e) underlying41 rfl J3) ?_) | (refine Z8 rfl 41 _ _ rfl (B:=w.heap.size+1) (j:=0) rfl (vs:=[vL d is.length b]) rfl k.out.cr x9 x.out J3 ?_;intro z s p))
 obtain ⟨f,g⟩:=k.out.end_ p;exact P7 (v:=.agg #[vL d is.length b]) (b_ (P:=prog) (ty:=41) rfl _ z (w.heap.size+1) [vL d is.length b] _ rfl s.blk underlying41 rfl J3) rfl ⟨⟨_,_,rfl,f.imp (fun u h=>iZ h.2)⟩,g⟩
end Go.Proofs.YtkdbheidpdjimaaGreatDoor
namespace Go.Proofs.YtkdbheidpdjimaaGreatDoor
open Proofs.Tryz Go.RowKit
variable {w:World} {a:OA} {is:List G3}
def uQ (w:World) (a:OA) (is:List G3):Prop:=TA w a is Yg 3 fun w b o x=>Bc w b o (wG x)
theorem kT (h:Z_ w a is):uQ w a is:=by
 rcases h with h | ⟨b,off,h1,h2,d⟩
 · exact .inl h
 refine .inr ⟨b,off,h1,h2,fun i c q v e=>?_⟩
 match q,e with
 | 0,e=>cases e;exact (d i c).1
 | 1,e=>cases e;exact (d i c).2.1
 | 2,e=>cases e;exact (d i c).2.2
theorem RU (h:uQ w a is):Z_ w a is:=by
 rcases h with h | ⟨b,off,h1,h2,d⟩
 · exact .inl h
 exact .inr ⟨b,off,h1,h2,fun i c=>⟨d i c 0 _ rfl,d i c 1 _ rfl,d i c 2 _ rfl⟩⟩
theorem c210 (x:G3) (w:World):
 Calls prog 210 #[.agg #[.bool x.nm,.string x.tl,.string x.ar]] w fun e w'=>e=.returned (.agg #[.bool x.nm,.string x.tl,.string x.ar])/\Bw w w':=by
 go_enter func210,ntmps210;go_wp2;refine P7 (v:=.agg #[.bool x.nm,vS x.tl,vS x.ar]) (by simp [results,results210,go_sem]) rfl ⟨rfl,?_⟩;exact ((o7.alloc I4 _).alloc U7 _)
theorem a0O (a:OA) (N:Nat) (is:List G3) (w:World) (hl:is.length<=1048576) (y:uQ w a is):
 Calls prog 165 #[.slice a is.length N] w fun e w'=>(∃ v,e=.returned v/\Et w.heap.size w' uQ is v)/\Bw w w':=by
 obtain ⟨b,off,hc⟩:=P_ y;have U:=U0 hc;clear hc y;obtain ⟨E,o,I,H,F⟩:=info_parts (show (prog.info? 178).map (fun i=>(i.zero,i.size,i.bytes))=some (some (.agg #[.bool false,vE,vE]),3,40) from J3);have hmk:∀ u:World,(Instr.makeSlice 111 (vI (is.length:Int)) (vI (is.length:Int))).run prog u=
  .ok (vL (some (aW u 0)) is.length is.length) (u.alloc (.cells (zs [.bool false,vE,vE] is.length).toArray 178)):=fun u=>by
  have h:=Vm (P:=prog) u 111 178 E (.agg #[.bool false,vE,vE]) underlying111 o I .i64 .i64 (is.length:Int) (is.length:Int) O0 (Ak _) (by rw [F];omega) O0;rw [<- Am];simpa [H,Value.cells] using h
 go_enter func165,ntmps165
 go_wp2_with fail
 go_loopw [4] (fun i wr=>∃ (k:Nat),k<=is.length/\i=.int .i64 k/\Below w.heap.size w wr/\Hid (Cl wr w.heap.size 178 ((is.take k).flatMap wG++zs [.bool false,.string ⟨#[]⟩,.string ⟨#[]⟩] (is.length - k)))) (fun i _=>is.length - (intOf i).toNat)
 case atStart=>exact ⟨0,D5 _,rfl,o7,by show Cl _ _ _ _;simp only [Zz,Kq,M_,Rq];exact G6 _ _ _⟩
 case round=>
  obtain ⟨k,J,rfl,g,hc⟩:=hrel;by_cases c:k<is.length;rotate_left
  · have hd:Hid (Et w.heap.size wr uQ is (vL (some (aW w 0)) is.length is.length)):=by
     obtain rfl:k=is.length:=O0;have h:=hc.out;rw [Uj,Um] at h;exact ⟨_,_,rfl,Y9 _,(LJ h x9).imp (fun u s=>.inr ⟨w.heap.size,0,rfl,s.lt,fun i o=>qH s (fun q v e=>by rw [E8,I_ (by have:=Jc (f:=wG) (m:=3) (fun _=>rfl) is;have:=(Nj.1 e).1;simp [wG] at this;omega)];exact Si (f:=wG) (m:=3) (d:=Yg) (fun _=>rfl) is i o q v e)⟩)⟩
    go_wp2;go_ret;exact ⟨⟨_,rfl,hd.out⟩,g⟩
  obtain ⟨ha,p,l⟩:=Nc U.out c;subst ha;have g0:=((l k c).below p g) 0 _ rfl;have g1:=((l k c).below p g) 1 _ rfl;have g2:=((l k c).below p g) 2 _ rfl;dsimp only [Nat.add_zero] at g0;have K:=U0 (Gm (d:=Yg) (f:=wG) c);generalize is.getD k Yg=x at*;clear l
  go_wp2_with fail
  refine (c210 x wr).mono ?_;rintro e C ⟨rfl,t⟩;have L:Bw w C:=G7 g t;have S:=U0 (hc.out.below t hc.out.lt);have r:Hid (((is.take k).flatMap wG).length=k*([.bool false,vE,vE]:List Value).length):=by show _=_;rw [Jc (m:=3) (fun _=>rfl),B_,Vk J];rfl
  have R:=U0 (Du (z:=[.bool false,vE,vE]) (vs:=wG x) (n:=is.length) r.out rfl c);have V:Hid (∀ v∈wG x,v.oneCell'=true):=by intro v hv;simp [wG] at hv;rcases hv with rfl|rfl|rfl<;>rfl
  have Q:Hid (∀ z,Cl z w.heap.size 178 (Zp ((is.take k).flatMap wG++zs [.bool false,vE,vE] (is.length - k)) (k*3) (wG x))->Cl z w.heap.size 178 ((is.take (k+1)).flatMap wG++zs [.bool false,vE,vE] (is.length - (k+1)))):=fun z h=>by rw [K.out,<- au (z:=[.bool false,vE,vE]) (vs:=wG x) r.out rfl c];exact h
  go_wp2_with (refine Z8 rfl 178 _ _ rfl (B:=w.heap.size) (j:=k*3) rfl (vs:=wG x) rfl S.out R.out V.out J3 ?_;intro z A D;have W:=U0 (Q.out z A);have O:=L.trans (D.below x9);clear A)
  go_roundw
  case rel=>exact ⟨k+1,O0,by go_num,O,W⟩
  case measure=>simp [intOf];omega
def JR (w:World) (a:OA) (is:List L4):Prop:=TA w a is O_ 4 fun w b o x=>Bc w b o (NG x)
theorem ZU {is:List L4} (h:I9 w a is):JR w a is:=by
 rcases h with h | ⟨b,off,h1,h2,d⟩
 · exact .inl h
 refine .inr ⟨b,off,h1,h2,fun i c q v e=>?_⟩
 match q,e with
 | 0,e=>cases e;exact (d i c).1
 | 1,e=>cases e;exact (d i c).2.1
 | 2,e=>cases e;exact (d i c).2.2.1
 | 3,e=>cases e;exact (d i c).2.2.2
theorem kV {is:List L4} (h:JR w a is):I9 w a is:=by
 rcases h with h | ⟨b,off,h1,h2,d⟩
 · exact .inl h
 exact .inr ⟨b,off,h1,h2,fun i c=>⟨d i c 0 _ rfl,d i c 1 _ rfl,d i c 2 _ rfl,d i c 3 _ rfl⟩⟩
theorem QZ (cd:Int) (tx:BY) (w:World):
 Calls prog 110 #[.agg #[.int .i64 cd,.string tx]] w fun e w'=>e=.returned (.agg #[.int .i64 cd,.string tx])/\Bw w w':=by
 go_enter func110,ntmps110;go_wp2;refine P7 (v:=.agg #[vI cd,vS tx]) (by simp [results,results110,go_sem]) rfl ⟨rfl,?_⟩;exact ((o7.alloc I4 _).alloc U7 _)
theorem a2e (x:L4) (w:World):
 Calls prog 166 #[.agg #[.bool x.has,.string x.nm,.int .i64 x.cd,.string x.tx]] w fun e w'=>e=.returned (.agg #[.bool x.has,.string x.nm,.int .i64 x.cd,.string x.tx])/\Bw w w':=by
 go_enter func166,ntmps166
 go_upto_region 2 with fail
 have d:=U0 (Aj (w:=w) (ta:=241) (tr:=167) (ar:=[.bool x.has,vS x.nm,vI x.cd,vS x.tx]) (zs:=[.bool false,vE,vO,vE]));generalize ((w.alloc (.cells #[.bool x.has,vS x.nm,vI x.cd,vS x.tx] 241)).alloc (.cells #[.bool false,vE,vO,vE] 167)).alloc (.cells #[.bool false,vE,vO,vE] 167)=t at*;have a:=d.out.ca.cell 0;simp only [@gz Value] at a;have o1:=d.out.co.cell 0;have h:=d.out.co.opn 0;simp only [@gz Value] at o1
 go_upto_region 3 with fail
 clear o1 h;have b:=U0 (d.out.put 0 (.bool x.has));dsimp only [List.set_cons_zero,List.set_cons_succ] at b;generalize t.setCell (aA (w.heap.size+1+1) 0) (.bool x.has)=V1 at*;clear d;clear a;have a:=b.out.ca.cell 1;simp only [@gz Value] at a;have o1:=b.out.co.cell 1;have h:=b.out.co.opn 1;simp only [@gz Value] at o1
 go_upto_region 4 with fail
 clear o1 h;have c:=U0 (b.out.put 1 (vS x.nm));dsimp only [List.set_cons_zero,List.set_cons_succ] at c;generalize V1.setCell (aA (w.heap.size+1+1) 1) (vS x.nm)=o at*;clear b;clear a;have n:=c.out.ca.cell 2;have a:=c.out.ca.cell 3;simp only [@gz Value] at n a
 go_wp2_with fail
 clear n a;refine (QZ x.cd x.tx o).mono ?_;rintro e s ⟨rfl,f⟩;have g:Kp o.heap.size s (fun _=>True):=fun _ _ _=>trivial;have k:=U0 (c.out.call f (g));clear f g c
 go_upto_region 5 with (refine Z8 rfl 103 _ _ rfl (B:=w.heap.size+1+1) (j:=2) rfl (vs:=[vI x.cd,vS x.tx]) rfl k.out.co (Bz rfl) (by intro v hv;simp at hv;rcases hv with rfl|rfl<;>rfl) J3 ?_;intro V4 m l;have i:=U0 (k.out.on (xs':=[.bool x.has,vS x.nm,vI x.cd,vS x.tx]) l m);clear l m k)
 have u:Hid (∀ v∈([.bool x.has,vS x.nm,vI x.cd,vS x.tx]:List Value),v.oneCell'=true):=by intro v hv;simp at hv;rcases hv with rfl|rfl|rfl|rfl<;>rfl
 go_wp2_with (first | (refine Z9 rfl (Y8 167 _ rfl (B:=w.heap.size+1+1) (j:=0) (cs:=[.bool x.has,vS x.nm,vI x.cd,vS x.tx]) rfl (fun q v e=>by rw [E8];exact (i.out.co.cell q).trans e) underlying167 rfl J3) ?_) | (refine Z8 rfl 167 _ _ rfl (B:=w.heap.size+1) (j:=0) rfl (vs:=[.bool x.has,vS x.nm,vI x.cd,vS x.tx]) rfl i.out.cr x9 u.out J3 ?_;intro z r p))
 obtain ⟨g,f⟩:=i.out.end_ p;exact P7 (v:=.agg #[.bool x.has,vS x.nm,vI x.cd,vS x.tx]) (b_ (P:=prog) (ty:=167) rfl _ z (w.heap.size+1) [.bool x.has,vS x.nm,vI x.cd,vS x.tx] _ rfl r.blk underlying167 rfl J3) rfl ⟨rfl,f⟩
theorem c109 (a:OA) (N:Nat) (is:List L4) (w:World) (hl:is.length<=1048576) (y:JR w a is):
 Calls prog 109 #[.slice a is.length N] w fun e w'=>(∃ v,e=.returned v/\Et w.heap.size w' JR is v)/\Bw w w':=by
 obtain ⟨b,off,hc⟩:=P_ y;have U:=U0 hc;clear hc y;obtain ⟨E,p,I,H,F⟩:=info_parts (show (prog.info? 167).map (fun i=>(i.zero,i.size,i.bytes))=some (some (.agg #[.bool false,vE,vO,vE]),4,48) from J3);have hmk:∀ u:World,(Instr.makeSlice 102 (vI (is.length:Int)) (vI (is.length:Int))).run prog u=
  .ok (vL (some (aW u 0)) is.length is.length) (u.alloc (.cells (zs [.bool false,vE,vO,vE] is.length).toArray 167)):=fun u=>by
  have h:=Vm (P:=prog) u 102 167 E (.agg #[.bool false,vE,vO,vE]) underlying102 p I .i64 .i64 (is.length:Int) (is.length:Int) O0 (Ak _) (by rw [F];omega) O0;rw [<- Am];simpa [H,Value.cells] using h
 go_enter func109,ntmps109
 go_wp2_with fail
 go_loopw [4] (fun i wr=>∃ (k:Nat),k<=is.length/\i=.int .i64 k/\Below w.heap.size w wr/\Hid (Cl wr w.heap.size 167 ((is.take k).flatMap NG++zs [.bool false,.string ⟨#[]⟩,.int .i64 0,.string ⟨#[]⟩] (is.length - k)))) (fun i _=>is.length - (intOf i).toNat)
 case atStart=>exact ⟨0,D5 _,rfl,o7,by show Cl _ _ _ _;simp only [Zz,Kq,M_,Rq];exact G6 _ _ _⟩
 case round=>
  obtain ⟨k,J,rfl,g,hc⟩:=hrel;by_cases c:k<is.length;rotate_left
  · have hd:Hid (Et w.heap.size wr JR is (vL (some (aW w 0)) is.length is.length)):=by
     obtain rfl:k=is.length:=O0;have h:=hc.out;rw [Uj,Um] at h;exact ⟨_,_,rfl,Y9 _,(LJ h x9).imp (fun u s=>.inr ⟨w.heap.size,0,rfl,s.lt,fun i p=>qH s (fun q v e=>by rw [E8,I_ (by have:=Jc (f:=NG) (m:=4) (fun _=>rfl) is;have:=(Nj.1 e).1;simp [NG] at this;omega)];exact Si (f:=NG) (m:=4) (d:=O_) (fun _=>rfl) is i p q v e)⟩)⟩
    go_wp2;go_ret;exact ⟨⟨_,rfl,hd.out⟩,g⟩
  obtain ⟨ha,o,l⟩:=Nc U.out c;subst ha;have g0:=((l k c).below o g) 0 _ rfl;have g1:=((l k c).below o g) 1 _ rfl;have g2:=((l k c).below o g) 2 _ rfl;have g3:=((l k c).below o g) 3 _ rfl;dsimp only [Nat.add_zero] at g0;have K:=U0 (Gm (d:=O_) (f:=NG) c);generalize is.getD k O_=x at*;clear l
  go_wp2_with fail
  refine (a2e x wr).mono ?_;rintro e C ⟨rfl,t⟩;have L:Bw w C:=G7 g t;have S:=U0 (hc.out.below t hc.out.lt);have r:Hid (((is.take k).flatMap NG).length=k*([.bool false,vE,vO,vE]:List Value).length):=by show _=_;rw [Jc (m:=4) (fun _=>rfl),B_,Vk J];rfl
  have R:=U0 (Du (z:=[.bool false,vE,vO,vE]) (vs:=NG x) (n:=is.length) r.out rfl c);have V:Hid (∀ v∈NG x,v.oneCell'=true):=by intro v hv;simp [NG] at hv;rcases hv with rfl|rfl|rfl|rfl<;>rfl
  have Q:Hid (∀ z,Cl z w.heap.size 167 (Zp ((is.take k).flatMap NG++zs [.bool false,vE,vO,vE] (is.length - k)) (k*4) (NG x))->Cl z w.heap.size 167 ((is.take (k+1)).flatMap NG++zs [.bool false,vE,vO,vE] (is.length - (k+1)))):=fun z h=>by rw [K.out,<- au (z:=[.bool false,vE,vO,vE]) (vs:=NG x) r.out rfl c];exact h
  go_wp2_with (refine Z8 rfl 167 _ _ rfl (B:=w.heap.size) (j:=k*4) rfl (vs:=NG x) rfl S.out R.out V.out J3 ?_;intro z A D;have W:=U0 (Q.out z A);have O:=L.trans (D.below x9);clear A)
  go_roundw
  case rel=>exact ⟨k+1,O0,by go_num,O,W⟩
  case measure=>simp [intOf];omega
