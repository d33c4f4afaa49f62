import Derived.Test.YthjhakdpikdoeaaGreatDoorG9
set_option linter.unusedVariables false
set_option maxHeartbeats 8000000
set_option maxRecDepth 100000
namespace Go.Proofs.YthjhakdpikdoeaaGreatDoor.M
open Proofs.Tryz
open Go.RowKit
theorem BlkAt.other {u:World} {B:Nat} {vs:List Value} (h:BlkAt u B vs) (p:Addr) (v:Value) (hp:p.block≠B):BlkAt (u.setCell p v) B vs:=fun i x e=>by
 rw [World.cell?_setCell_other _ _ _ _ (fun h=>hp (by rw [h]))];exact h i x e
theorem BlkAt.fill {B:Nat} (vs:List Value):∀ {u:World} (pre old post:List Value) (j:Nat),BlkAt u B (pre++old++post)->old.length=vs.length->j=pre.length->BlkAt (fill u B j vs) B (pre++vs++post):=by
 induction vs with
 | nil=>intro u pre old post j h hl _;obtain rfl:old=[]:=List.length_eq_zero_iff.1 hl;exact h
 | cons v vs ih=>
  intro u pre old post j h hl hj
  match old,hl with
  | o::old,hl=>
   subst hj;have h1:=h.set pre.length v sm_;have e:(pre++(o::old)++post).set pre.length v=(pre++[v])++old++post:=sm_;rw [e] at h1;have:=ih (pre++[v]) old post (pre.length+1) h1 (by simpa using hl) sm_;have e2:pre++[v]++vs++post=pre++(v::vs)++post:=sm_;rw [e2] at this;exact this
theorem BlkAt.fillO {B B':Nat} (hne:B≠B') (vs:List Value):∀ {u:World} {xs:List Value} (j:Nat),BlkAt u B' xs->BlkAt (Go.Proofs.YthjhakdpikdoeaaGreatDoor.M.fill u B j vs) B' xs:=by
 induction vs with
 | nil=>intro u xs j h;exact h
 | cons v vs ih=>intro u xs j h;exact ih (j+1) (h.other ⟨B,j,none⟩ v hne)
theorem OpnAt.fill {B B':Nat} (vs:List Value):∀ {u:World} (j:Nat),OpnAt u B'->OpnAt (Go.Proofs.YthjhakdpikdoeaaGreatDoor.M.fill u B j vs) B':=by
 induction vs with
 | nil=>intro u j h;exact h
 | cons v vs ih=>intro u j h;exact ih (j+1) (h.set ⟨B,j,none⟩ v)
theorem size_fill {B:Nat} (vs:List Value):∀ {u:World} (j:Nat),(fill u B j vs).heap.size=u.heap.size:=by
 induction vs with
 | nil=>intro u j;rfl
 | cons v vs ih=>intro u j;exact (ih (j+1)).trans sm_
theorem info74:(prog.info? 74).map (fun i=>(i.zero,i.size,i.bytes))=some (some (.agg #[Value.bool false,.string ⟨#[]⟩,.int .i64 0,.string ⟨#[]⟩]),4,48):=kr_
def t6z:T6:=⟨false,0,⟨#[]⟩,false,⟨#[]⟩,0⟩
def g16z:G16:=⟨0,0,0,0,0,m3z,[],0,t6z⟩
structure W19 where
 no:Int
 up:Bool
 has:Bool
 of:G16
theorem c32 (n:Int) (w:World):
 Calls prog 32 #[.int .i64 n] w fun e w'=>e=.returned (.bool (decide (1<=n/\n<=4)))/\w'=w:=by
 by_cases h1:1<=n <;> by_cases h2:n<=4
 all_goals
  go_enter func32,ntmps32;go_wp2
  all_goals go_ret
  all_goals exact ⟨by simp [*],rfl⟩
theorem c158 (n:Int) (w:World):
 Calls prog 158 #[.int .i64 n] w fun e w'=>e=.returned (.bool (decide (1<=n/\n<=200)))/\w'=w:=by
 by_cases h1:1<=n <;> by_cases h2:n<=200
 all_goals
  go_enter func158,ntmps158;go_wp2
  all_goals go_ret
  all_goals exact ⟨by simp [*],rfl⟩
def momOk (a b:Int):Bool:=decide (1<=a/\a<=200)&&decide (0<=b/\b<=1000)
theorem c125 (a b:Int) (w:World):
 Calls prog 125 #[.int .i64 a,.int .i64 b] w fun e w'=>e=.returned (.bool (momOk a b))/\w'=w:=by
 have HM:Hid (momOk a b=(decide (1<=a/\a<=200)&&decide (0<=b/\b<=1000))):=rfl;cases h:decide (1<=a/\a<=200)
 · have HF:Hid (momOk a b=false):=by rw [HM.out,h];rfl
   go_enter func125,ntmps125
   go_wp2_with fail
   refine (c158 a w).mono ?_;rintro e w1 ⟨rfl,hw⟩;obtain rfl:=hw.symm;rw [h];go_wp2;go_ret;exact ⟨by rw [HF.out];rfl,rfl⟩
 have HF:Hid (momOk a b=decide (0<=b/\b<=1000)):=by rw [HM.out,h];rfl
 by_cases h1:0<=b <;> by_cases h2:b<=1000
 all_goals
  go_enter func125,ntmps125
  go_wp2_with fail
  refine (c158 a w).mono ?_;rintro e w1 ⟨rfl,hw⟩;obtain rfl:=hw.symm;rw [h];go_wp2
  all_goals go_ret
  all_goals exact ⟨by rw [HF.out];simp [*],rfl⟩
theorem c38 (x:L4) (w:World) (hs:x.le 1048600):
 Calls prog 38 #[.agg #[.bool x.has,.string x.nm,.int .i64 x.cd,.string x.tx]] w fun e w'=>IsB (LkOk x) e/\Below w.heap.size w w':=by
 obtain ⟨s1,s2⟩:=hs;have hB0:∀ o,Below w.heap.size w (w.alloc o):=fun o=>bA;cases hh:x.has
 · cases hn:nameOk x.nm.data.toList
   · have HN:Hid (IsB (LkOk x) (.returned (.bool false))):=isB_no (lk_name hn)
     go_enter func38,ntmps38
     go_wp2_with fail
     refine (c69 x.nm _ om_).mono ?_;rintro e w1 ⟨rfl,hw⟩;obtain rfl:=hw.symm;rw [hn];go_wp2;go_ret;exact ⟨HN.out,hB0 _⟩
   have HE:Hid (LkOk x↔vr x.cd x.tx.data.toList=true):=lk_ask hn hh;go_enter func38,ntmps38
   go_wp2_with fail
   refine (c69 x.nm _ om_).mono ?_;rintro e w1 ⟨rfl,hw⟩;obtain rfl:=hw.symm;rw [hn]
   go_wp2_with fail
   refine (c74 x.cd x.tx _ om_).mono ?_;rintro e w2 ⟨rfl,hb2⟩;have hB2:Below w.heap.size w w2:=(hB0 _).trans (hb2.mono sm_);go_wp2;go_ret;exact ⟨⟨_,rfl,HE.out.symm⟩,hB2⟩
 cases hn:nameOk x.nm.data.toList
 · have HN:Hid (IsB (LkOk x) (.returned (.bool false))):=isB_no (lk_name hn)
   go_enter func38,ntmps38
   go_wp2_with fail
   refine (c69 x.nm _ om_).mono ?_;rintro e w1 ⟨rfl,hw⟩;obtain rfl:=hw.symm;rw [hn];go_wp2;go_ret;exact ⟨HN.out,(hB0 _).alloc sm_ _⟩
 have HE:Hid (LkOk x↔((x.cd=0/\x.tx.toList=[])\/(x.cd=4/\x.tx.toList=x.nm.toList))):=lk_has hn hh
 skip
 all_goals
  go_enter func38,ntmps38
  go_wp2_with fail
  refine (c69 x.nm _ om_).mono ?_;rintro e w1 ⟨rfl,hw⟩;obtain rfl:=hw.symm;rw [hn];go_wp2
  all_goals go_ret
  all_goals first
   | exact ⟨isB_yes (HE.out.2 (by simp [*])),(hB0 _).alloc sm_ _⟩
   | exact ⟨isB_no (fun h=>by have:=HE.out.1 h;simp [*] at this),(hB0 _).alloc sm_ _⟩
   | exact ⟨isB_yes (HE.out.2 (by simp [*])),((hB0 _).alloc sm_ _).alloc so_ _⟩
   | exact ⟨isB_no (fun h=>by have:=HE.out.1 h;simp [*] at this),((hB0 _).alloc sm_ _).alloc so_ _⟩
theorem c126 (a:Option Addr) (cap:Nat) (ls:List L4) (w:World) (hl:ls.length<=1048576) (hs:∀ i,(ls.getD i l4z).le 1048576) (hat:LksAt w a ls):
 Calls prog 126 #[.slice a ls.length cap] w fun e w'=>IsB (LksOk ls) e/\Below w.heap.size w w':=by
 obtain ⟨b,off,hc⟩:=lks_some hat;have HC:Hid (ls=[]\/(a=some ⟨b,off,none⟩/\b<w.heap.size/\∀ i,i<ls.length->w.cell? ⟨b,off+i*4,none⟩=some (.bool (ls.getD i l4z).has)/\w.cell? ⟨b,off+i*4+1,none⟩=some (.string (ls.getD i l4z).nm)/\w.cell? ⟨b,off+i*4+2,none⟩=some (.int .i64 (ls.getD i l4z).cd)/\w.cell? ⟨b,off+i*4+3,none⟩=some (.string (ls.getD i l4z).tx))):=hc;have HS:Hid (∀ i,(ls.getD i l4z).le 1048576):=hs;clear hc hat hs;by_cases hbig:15<ls.length
 · have HN:Hid (IsB (LksOk ls) (.returned (.bool false))):=isB_no (fun h=>by have:=h.1;omega)
   go_enter func126,ntmps126;go_wp2;go_ret;exact ⟨HN.out,Below.refl _ _⟩
 go_enter func126,ntmps126
 go_wp2_with fail
 go_loopw [10] (fun vi wr=>∃ k:Nat,k<=ls.length/\vi=.int .i64 k/\Below w.heap.size w wr/\Hid (∀ j,j<k->LkOk (ls.getD j l4z))) (fun vi _=>ls.length - (intOf vi).toNat)
 case atStart=>exact ⟨0,Nat.zero_le _,rfl,Below.refl _ _,fun j h=>absurd h (Nat.not_lt_zero _)⟩
 case round=>
  obtain ⟨k,hk,rfl,hb,hdone⟩:=hrel;by_cases hlt:k<ls.length
  · rcases HC.out with hss | ⟨ha,hbw,hcell⟩
    · rw [hss] at hlt;exact absurd hlt (Nat.not_lt_zero _)
    subst ha;obtain ⟨g0,g1,g2,g3⟩:=hcell k hlt;have g0:=(hb.cell (p:=⟨b,off+k*4,none⟩) hbw).trans g0;have g1:=(hb.cell (p:=⟨b,off+k*4+1,none⟩) hbw).trans g1;have g2:=(hb.cell (p:=⟨b,off+k*4+2,none⟩) hbw).trans g2;have g3:=(hb.cell (p:=⟨b,off+k*4+3,none⟩) hbw).trans g3;have hxs:=HS.out k;have HN:Hid (¬ LkOk (ls.getD k l4z)->IsB (LksOk ls) (.returned (.bool false))):=fun h=>isB_no fun d=>h (d.2 k hlt);have HY:Hid (LkOk (ls.getD k l4z)->∀ j,j<k+1->LkOk (ls.getD j l4z)):=fun h j hj=>by
     rcases Nat.lt_or_ge j k with h1 | h1
     · exact hdone.out j h1
     obtain rfl:j=k:=om_;exact h
    generalize ls.getD k l4z=x at*;clear hcell
    go_wp2_with fail
    have hBV:Below w.heap.size w (wr.alloc (.cells #[.bool x.has,.string x.nm,.int .i64 x.cd,.string x.tx] 74)):=hb.alloc hb.size _;generalize (wr.alloc (.cells #[.bool x.has,.string x.nm,.int .i64 x.cd,.string x.tx] 74))=V at*;refine (c38 x V ⟨by have:=hxs.1;omega,by have:=hxs.2;omega⟩).mono ?_;rintro e w1 ⟨⟨r,rfl,hr⟩,hb1⟩;have hB1:Below w.heap.size w w1:=bT hBV hb1;cases r
    · have hno:Hid (IsB (LksOk ls) (.returned (.bool false))):=HN.out fun h=>absurd (hr.2 h) Bool.false_ne_true
      clear hr;go_wp2;go_ret;exact ⟨hno.out,hB1⟩
    have hyes:Hid (∀ j,j<k+1->LkOk (ls.getD j l4z)):=HY.out (hr.1 rfl);clear hr;go_wp2;go_roundw
    case rel=>exact ⟨k+1,om_,by go_num,hB1,hyes⟩
    case measure=>simp [intOf];omega
  have hyes:Hid (IsB (LksOk ls) (.returned (.bool true))):=isB_yes ⟨om_,fun j hj=>hdone.out j om_⟩;go_wp2;go_ret;exact ⟨hyes.out,hb⟩
theorem c68 (a a2:Option Addr) (cap cap2:Nat) (ls:List L4) (w:World) (hl:ls.length<=1048576) (hat:LksAt w a ls) (hat2:LksAt w a2 ls):
 Calls prog 68 #[.slice a ls.length cap,.slice a2 ls.length cap2] w fun e w'=>e=.returned (.bool true)/\Below w.heap.size w w':=by
 obtain ⟨b2,of2,hc2⟩:=lks_some hat2;have HC2:Hid (ls=[]\/(a2=some ⟨b2,of2,none⟩/\b2<w.heap.size/\∀ i,i<ls.length->w.cell? ⟨b2,of2+i*4,none⟩=some (.bool (ls.getD i l4z).has)/\w.cell? ⟨b2,of2+i*4+1,none⟩=some (.string (ls.getD i l4z).nm)/\w.cell? ⟨b2,of2+i*4+2,none⟩=some (.int .i64 (ls.getD i l4z).cd)/\w.cell? ⟨b2,of2+i*4+3,none⟩=some (.string (ls.getD i l4z).tx))):=hc2;clear hc2 hat2;obtain ⟨b,off,hc⟩:=lks_some hat;have HC:Hid (ls=[]\/(a=some ⟨b,off,none⟩/\b<w.heap.size/\∀ i,i<ls.length->w.cell? ⟨b,off+i*4,none⟩=some (.bool (ls.getD i l4z).has)/\w.cell? ⟨b,off+i*4+1,none⟩=some (.string (ls.getD i l4z).nm)/\w.cell? ⟨b,off+i*4+2,none⟩=some (.int .i64 (ls.getD i l4z).cd)/\w.cell? ⟨b,off+i*4+3,none⟩=some (.string (ls.getD i l4z).tx))):=hc;clear hc hat;go_enter func68,ntmps68
 go_wp2_with fail
 go_loopw [13] (fun vi wr=>∃ k:Nat,k<=ls.length/\vi=.int .i64 k/\Below w.heap.size w wr) (fun vi _=>ls.length - (intOf vi).toNat)
 case atStart=>exact ⟨0,Nat.zero_le _,rfl,Below.refl _ _⟩
 case round=>
  obtain ⟨k,hk,rfl,hb⟩:=hrel;by_cases hlt:k<ls.length
  · rcases HC.out with hss | ⟨ha,hbw,hcell⟩
    · rw [hss] at hlt;exact absurd hlt (Nat.not_lt_zero _)
    rcases HC2.out with hss | ⟨ha2,hbw2,hcell2⟩
    · rw [hss] at hlt;exact absurd hlt (Nat.not_lt_zero _)
    subst ha ha2;obtain ⟨g0,g1,g2,g3⟩:=hcell k hlt;have g0:=(hb.cell (p:=⟨b,off+k*4,none⟩) hbw).trans g0;have g1:=(hb.cell (p:=⟨b,off+k*4+1,none⟩) hbw).trans g1;have g2:=(hb.cell (p:=⟨b,off+k*4+2,none⟩) hbw).trans g2;have g3:=(hb.cell (p:=⟨b,off+k*4+3,none⟩) hbw).trans g3;obtain ⟨h0,h1,h2,h3⟩:=hcell2 k hlt;have h0:=(hb.cell (p:=⟨b2,of2+k*4,none⟩) hbw2).trans h0;have h1:=(hb.cell (p:=⟨b2,of2+k*4+1,none⟩) hbw2).trans h1;have h2:=(hb.cell (p:=⟨b2,of2+k*4+2,none⟩) hbw2).trans h2;have h3:=(hb.cell (p:=⟨b2,of2+k*4+3,none⟩) hbw2).trans h3;generalize ls.getD k l4z=x at*;have hki:(k:Int)<(ls.length:Int):=om_;clear hcell hcell2
    go_wp2_with fail
    refine wp_region_held_drew (S:=(fun u=>(u.cell? ⟨b,off+k*4,none⟩=some (.bool x.has)/\u.cell? ⟨b,off+k*4+1,none⟩=some (.string x.nm)/\u.cell? ⟨b,off+k*4+2,none⟩=some (.int .i64 x.cd)/\u.cell? ⟨b,off+k*4+3,none⟩=some (.string x.tx))/\(u.cell? ⟨b2,of2+k*4,none⟩=some (.bool x.has)/\u.cell? ⟨b2,of2+k*4+1,none⟩=some (.string x.nm)/\u.cell? ⟨b2,of2+k*4+2,none⟩=some (.int .i64 x.cd)/\u.cell? ⟨b2,of2+k*4+3,none⟩=some (.string x.tx)))) kr_ ?_ fun hHeld=>?_
    · ((try dsimp only);go_keep)
    refine tq 0 hHeld ?_
    try simp only [qq]
    refine tq 1 hHeld ?_
    try simp only [qq]
    refine tq 2 hHeld ?_
    try simp only [qq]
    refine tq 3 hHeld ?_
    try simp only [qq]
    refine tq 4 hHeld ?_
    try simp only [qq]
    refine tq 5 hHeld ?_
    try simp only [qq]
    refine tq 6 hHeld ?_
    try simp only [qq]
    refine tq 7 hHeld ?_
    try simp only [qq]
    refine tq 8 hHeld ?_
    try simp only [qq]
    refine wpAnyH_done kr_ ?_ _;clear hHeld;go_wp2;go_roundw
    case rel=>exact ⟨k+1,om_,by go_num,hb.drew⟩
    case measure=>simp [intOf];omega
  go_wp2;go_ret;exact ⟨rfl,hb⟩
theorem c68n (a a2:Option Addr) (cap cap2:Nat) (ls:List L4) (w:World) (hl:ls.length<=1048576):
 Calls prog 68 #[.slice a ls.length cap,.slice a2 0 cap2] w fun e w'=>e=.returned (.bool (decide (ls.length=0)))/\Below w.heap.size w w':=by
 by_cases h0:ls.length=0
 · obtain rfl:ls=[]:=List.length_eq_zero_iff.1 h0
   exact (c68 a a2 cap cap2 [] w (Nat.zero_le _) (.inl rfl) (.inl rfl)).mono fun e w' h=>⟨h.1.trans sm_,h.2⟩
 go_enter func68,ntmps68;go_wp2;go_ret;exact ⟨by simp [h0],Below.refl _ _⟩
end Go.Proofs.YthjhakdpikdoeaaGreatDoor.M
